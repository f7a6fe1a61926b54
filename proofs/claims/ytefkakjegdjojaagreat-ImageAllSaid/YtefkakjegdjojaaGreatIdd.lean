/- Which sectors are unlike, and Zgr that are alike (the document's): told. -/
import Derived.Test.YtefkakjegdjojaaGreatIpd
namespace Go.Proofs.YtefkakjegdjojaaGreat.idd
open Go Go.RowKit eng SX Fact fil ima symD sta
open idf hiding isApp hApp
open ipd (EDfI)
open fileFronts (Zae)
set_option linter.unusedVariables false
set_option linter.unusedSimpArgs false
set_option maxRecDepth 1000000

def isApp:Op->Bool | .call { callee:=.builtin .append,.. }=>true | _=>false
def hApp (_:FuncId) (o:Oper):Option Hint:=cond (isApp o.op) (some .own) none
noncomputable def flD:=flat (Zar Tryz.prog 27)
noncomputable def lpD:=flat (Zak (nth flD 3))
def shD:Shape:=⟨[(0,.leaf),(1,.leaf)],[],[some false,some false],38,27⟩
def shDn:Shape:=⟨[(0,.leaf),(1,.leaf),(5,.nil),(6,.leaf)],[],[some false,some false,none],38,27⟩
def shDo:Shape:=⟨[(0,.leaf),(1,.leaf),(5,.own 0 3 2),(6,.leaf)],[pbox 3],[some false,some false,none],38,27⟩
def shDR:Shape:=⟨[(4,.own 0 0 2)],[pbox 0],[],38,27⟩
def shDN:Shape:=⟨[(4,.nil)],[],[],38,27⟩
def ESP (k:Nat):FnE:={ k:=k,ins:=[none,none],leaks:=[false,false],outs:=[none],kinds:=[.truth] }
noncomputable def flP:=flat (Zar Tryz.prog 25)
noncomputable def lpP:=flat (Zak (nth flP 4))
def shP:Shape:=⟨[(0,.leaf),(1,.leaf)],[],[some false,some false],26,25⟩
def shPl:Shape:=⟨[(0,.leaf),(1,.leaf),(5,.leaf)],[],[some false,some false,none],26,25⟩
def shPR:Shape:=⟨[(4,.leaf)],[],[none],26,25⟩
@[simp] def Zgj:SX:=.bin .neq (.cell (.var 0) (.var 2) 1 0) (.cell (.var 1) (.var 2) 1 0)
@[simp] def Zb2:SX:=.bin .add (.var 2) (.con (.int .i64 1))
@[simp] def Zje:SX:=.lit 1 [.var 2,.cell (.var 1) (.var 2) 1 0]
@[simp] def Zc1:SX:=.bin .lss (.var 2) (.len (.var 1))
@[simp] def zGreatIdd5:SX:=.op (Op.binOp .neq 93 (Operand.tmp 20) (Operand.tmp 24) 93) 4 [20,24] [.agg [.cell (.var 0) (.var 2) 2 0,.cell (.var 0) (.var 2) 2 1],.agg [.cell (.var 1) (.var 2) 2 0,.cell (.var 1) (.var 2) 2 1]]
@[simp] def Zc0:Fact:=.idx (.var 1) (.var 2) 1 1
@[simp] def Zgi:SX:=.bin .geq (.var 2) (.len (.var 0))
@[simp] def Zjd:Fact:=.ok (.cell (.var 1) (.var 2) 1 0)
@[simp] def Zgh:Fact:=.idx (.var 0) (.var 2) 1 1
@[simp] def Znb:Fact:=same (.len (.var 3)) (.len (.var 3))
@[simp] def Zna:SX:=.bin .lss (.var 2) (.len (.var 0))
@[simp] def Zm9:Fact:=.ok (.cell (.var 0) (.var 2) 1 0)
@[simp] def Zm8:SX:=rop ROp.cat [.var 3,Zje]
theorem pre:segTo Tryz.prog fil.noOrc 10000 (flD.take 3) shD [] shDn []=some (.normal,[.ok (.con (.int .i64 0))],[.var 0,.var 1,.con (.int .i64 0)]):=by kernel_rfl
theorem xn:segTo Tryz.prog fil.noOrc 10000 lpD shDn [0] shDn []=some (.exit 0,[.ok (.len (.var 1)),.ok Zc1,.is Zc1 (.bool false),.ok (.var 2)],[.var 0,.var 1,.var 2]):=by kernel_rfl
theorem xo:segTo Tryz.prog fil.noOrc 10000 lpD shDo [0] shDo [(0,0)]=some (.exit 0,[.ok (.len (.var 1)),.ok Zc1,.is Zc1 (.bool false),.ok (.var 2),Znb],[.var 0,.var 1,.var 2,.var 3]):=by kernel_rfl
theorem sn:segTo Tryz.prog fil.noOrc 10000 lpD shDn [1,0,0] shDn []=some (.normal,[.ok (.len (.var 1)),.ok Zc1,.is Zc1 (.bool true),.ok (.len (.var 0)),.ok Zgi,.is Zgi (.bool false),Zgh,Zgh,Zm9,Zc0,Zc0,Zjd,.ok Zgj,.is Zgj (.bool false),.ok Zb2,.ok Zb2],[.var 0,.var 1,Zb2]):=by kernel_rfl
theorem so:segTo Tryz.prog fil.noOrc 10000 lpD shDo [1,0,0] shDo [(0,0)]=some (.normal,[.ok (.len (.var 1)),.ok Zc1,.is Zc1 (.bool true),.ok (.len (.var 0)),.ok Zgi,.is Zgi (.bool false),Zgh,Zgh,Zm9,Zc0,Zc0,Zjd,.ok Zgj,.is Zgj (.bool false),.ok Zb2,.ok Zb2,Znb],[.var 0,.var 1,Zb2,.var 3]):=by kernel_rfl
theorem dn:segTo Tryz.prog fil.noOrc 10000 lpD shDn [1,0,1] shDo [(3,0)] hApp=some (.normal,[.ok (.len (.var 1)),.ok Zc1,.is Zc1 (.bool true),.ok (.len (.var 0)),.ok Zgi,.is Zgi (.bool false),Zgh,Zgh,Zm9,Zc0,Zc0,Zjd,.ok Zgj,.is Zgj (.bool true),Zc0,Zc0,Zjd,rng (.con (.int .i64 0)) (.len Zje),upto (.len Zje) 4294967296,.ok Zb2,.ok Zb2,same (.len Zje) (.len Zje)],[.var 0,.var 1,Zb2,Zje]):=by kernel_rfl
theorem do1:segTo Tryz.prog fil.noOrc 10000 lpD shDo [1,0,1] shDo [(0,1)] hApp=some (.normal,[.ok (.len (.var 1)),.ok Zc1,.is Zc1 (.bool true),.ok (.len (.var 0)),.ok Zgi,.is Zgi (.bool false),Zgh,Zgh,Zm9,Zc0,Zc0,Zjd,.ok Zgj,.is Zgj (.bool true),Zc0,Zc0,Zjd,Znb,upto (.len Zm8) 4294967296,.ok Zb2,.ok Zb2,same (.len Zm8) (.len Zm8)],[.var 0,.var 1,Zb2,Zm8]):=by kernel_rfl
theorem fn:segTo Tryz.prog fil.noOrc 10000 (flD.drop 4) shDn [] shDN []=some (.ret,[],[]):=by kernel_rfl
theorem fo:segTo Tryz.prog fil.noOrc 10000 (flD.drop 4) shDo [] shDR [(0,0)]=some (.ret,[Znb],[.var 3]):=by kernel_rfl
theorem pp:segTo Tryz.prog fil.noOrc 10000 (flP.take 4) shP [0] shPl []=some (.normal,[.ok (.len (.var 0)),.ok (.len (.var 1)),.ok (.bin .neq (.len (.var 0)) (.len (.var 1))),.is (.bin .neq (.len (.var 0)) (.len (.var 1))) (.bool false),.ok (.con (.int .i64 0))],[.var 0,.var 1,.con (.int .i64 0)]):=by kernel_rfl
theorem ps:segTo Tryz.prog fil.noOrc 10000 lpP shPl [1,0] shPl []=some (.normal,[.ok (.len (.var 0)),.ok Zna,.is Zna (.bool true),.idx (.var 0) (.var 2) 2 2,.idx (.var 0) (.var 2) 2 2,.ok (.cell (.var 0) (.var 2) 2 0),.ok (.cell (.var 0) (.var 2) 2 1),.idx (.var 1) (.var 2) 2 2,.idx (.var 1) (.var 2) 2 2,.ok (.cell (.var 1) (.var 2) 2 0),.ok (.cell (.var 1) (.var 2) 2 1),.ok zGreatIdd5,.is zGreatIdd5 (.bool false),.ok Zb2,.ok Zb2],[.var 0,.var 1,Zb2]):=by kernel_rfl
theorem px:segTo Tryz.prog fil.noOrc 10000 lpP shPl [0] shPl []=some (.exit 0,[.ok (.len (.var 0)),.ok Zna,.is Zna (.bool false),.ok (.var 2)],[.var 0,.var 1,.var 2]):=by kernel_rfl
theorem pe:segTo Tryz.prog fil.noOrc 10000 (flP.drop 5) shPl [] shPR []=some (.ret,[.ok (.con (.bool true))],[.con (.bool true)]):=by kernel_rfl

def RDf7 (ps qs:List PV):Prop:=∃ a b:List ByteArray,a.length<=1000000/\a.length=b.length/\ps=[pRow encS a,pRow encS b]/\qs=[pRow encQ (diffI a b)]
theorem fDf7:∀ ps q1 q2,RDf7 ps q1->RDf7 ps q2->q1=q2:=by
 rintro ps q1 q2 ⟨a,b,_,_,rfl,rfl⟩ ⟨a',b',_,_,h,rfl⟩
 simp only [List.cons.injEq,and_true] at h
 rw [fil.pRow_inj idf.encS_inj h.1,fil.pRow_inj idf.encS_inj h.2]
theorem cutD:flD=flD.take 3++.block (Zao (nth flD 3)) (.loop (Zak (nth flD 3))) :: flD.drop 4:=by kernel_rfl
set_option maxHeartbeats 2000000 in
theorem toldDf7 (k:Nat):ToldF 27 (EDfI k) (spec RDf7):=by
 refine Zek (fun _ _=>none) _ (Zar Tryz.prog 27) Tryz.func27 (by kernel_rfl) shD (by kernel_rfl) ?_ ?_
 ·intro ps qs h
  obtain ⟨a,b,_,_,rfl,rfl⟩:=Zaj h
  exact Zbd rfl
 ·intro C ps qs hF h x w hsh
  obtain ⟨a,b,ha,hl,rfl,rfl⟩:=Zaj h
  show wpL Tryz.prog flD _ x w
  rw [cutD]
  refine Zag Zad Zac fil.noOrc_ok pre hsh ?_ (fun qs a1 wd hq hx=>⟨fun _=>?_,fun h=>absurd rfl h⟩)
  ·simp [Base.ev,SX.ev,evs,Value.oneCell',binPV,Zaf]
  simp [evs,SX.ev] at hq
  subst hq
  refine Zau (fun m x w=>∃ i:Nat,m=b.length - i/\i<=b.length/\((diffI a (b.take i)=[]/\Zah C shDn [pRow encS a,pRow encS b,pI (i:Int)] x w) \/ Zah C shDo [pRow encS a,pRow encS b,pI (i:Int),pRow encQ (diffI a (b.take i))] x w)) ?_ (n:=b.length) ⟨0,by omega,by omega,.inl ⟨rfl,hx⟩⟩
  rintro m x w ⟨i,rfl,hi,hx⟩
  rw [<- List.append_nil (flat _)]
  have hdl:(diffI a (b.take i)).length<=1000000:=by
   have:=Ztr a (b.take i) 0
   rw [List.length_take] at this
   unfold diffI
   omega
  have rl:=Zaf encQ (diffI a (b.take i))
  by_cases hlt:i < b.length
  ·have v4:IntKind.i64.wrap ((i:Int)+1)=(i:Int)+1:=wrapI _ (by omega) (by omega)
   have ca:=cellS a i (by omega)
   have cb:=cellS b i hlt
   have ia:=Zaq encS a i 1 1 .i64 rfl (by omega) (by decide)
   have ib:=Zaq encS b i 1 1 .i64 rfl hlt (by decide)
   have hna:¬ a.length<=i:=by omega
   by_cases he:a[i]=b[i]
   ·have hge:=ge_step a b i hlt (by omega) he
    rcases hx with ⟨h0,hx⟩ | hx
    ·refine Zag Zad Zac fil.noOrc_ok sn hx ?_ (fun qs a1 wd hq hx=>⟨fun _=>.inl ⟨rfl,b.length - (i+1),by omega,i+1,rfl,by omega,.inl ⟨by rw [hge,h0],?_⟩⟩,fun h=>absurd rfl h⟩)
     ·simp [-Zae,Zab,Zaa,Base.ev,SX.ev,evs,Value.oneCell',binPV,v4,ca,cb,ia,ib,hlt,he,hna,Zaf]
     ·simp [evs,SX.ev,binPV,v4] at hq
      subst hq
      exact hx
    ·refine Zag Zad Zac fil.noOrc_ok so hx ?_ (fun qs a1 wd hq hx=>⟨fun _=>.inl ⟨rfl,b.length - (i+1),by omega,i+1,rfl,by omega,.inr ?_⟩,fun h=>absurd rfl h⟩)
     ·simp [-Zae,Zab,Zaa,Base.ev,SX.ev,evs,Value.oneCell',binPV,v4,ca,cb,ia,ib,hlt,he,hna,rl,Zaf]
     ·simp [evs,SX.ev,binPV,v4] at hq
      subst hq
      rw [hge]
      exact hx
   ·have hne:=ne_step a b i hlt (by omega) (fun e=>he e.symm)
    have he2:¬ a[i].toList=b[i].toList:=fun e=>he (Zrt e)
    rcases hx with ⟨h0,hx⟩ | hx
    ·have c1:=r_cat1Q (i:Int) b[i]
     have l1:=Zaf encQ [((i:Int),b[i])]
     refine Zag Zad Zac fil.noOrc_ok dn hx ?_ (fun qs a1 wd hq hx=>⟨fun _=>.inl ⟨rfl,b.length - (i+1),by omega,i+1,rfl,by omega,.inr ?_⟩,fun h=>absurd rfl h⟩)
     ·simp [-Zae,Zab,Zaa,Base.ev,SX.ev,evs,Value.oneCell',binPV,v4,ca,cb,ia,ib,hlt,he2,hna,c1,l1,Zfa,Zaf]
     ·simp [evs,SX.ev,binPV,v4,cb,Zxq] at hq
      subst hq
      rw [hne,h0]
      exact hx
    ·have c1:=r_catQ (diffI a (b.take i)) (i:Int) b[i]
     have l1:=Zaf encQ (diffI a (b.take i)++[((i:Int),b[i])])
     obtain ⟨z1,hz1⟩:∃ z1:Nat,z1=(diffI a (b.take i)++[((i:Int),b[i])]).length:=⟨_,rfl⟩
     rw [<- hz1] at l1
     rw [List.length_append,List.length_singleton] at hz1
     refine Zag Zad Zac fil.noOrc_ok do1 hx ?_ (fun qs a1 wd hq hx=>⟨fun _=>.inl ⟨rfl,b.length - (i+1),by omega,i+1,rfl,by omega,.inr ?_⟩,fun h=>absurd rfl h⟩)
     ·simp [-Zae,Zab,Zaa,Base.ev,SX.ev,evs,Value.oneCell',binPV,v4,ca,cb,ia,ib,hlt,he2,hna,c1,l1,rl,Zfa,Zaf]
      all_goals omega
     ·simp [evs,SX.ev,binPV,v4,cb,c1] at hq
      subst hq
      rw [hne]
      exact hx
  ·obtain rfl:i=b.length:=by omega
   rw [List.take_length] at hx rl
   rw [<- List.append_nil (flD.drop 4)]
   rcases hx with ⟨h0,hx⟩ | hx
   ·refine Zag Zad Zac fil.noOrc_ok xn hx ?_ (fun qs a1 wd hq hx=>⟨nofun,fun _=>.inr (.inl ⟨rfl,?_⟩)⟩)
    ·simp [-Zae,Zab,Zaa,Base.ev,SX.ev,evs,Value.oneCell',binPV,Zaf]
    simp [evs,SX.ev] at hq
    subst hq
    refine Zag Zad Zac fil.noOrc_ok fn hx ?_ (fun qs a1 wd hq hx=>⟨nofun,fun _=>⟨.inr rfl,shDN,_,[SX.lit 0 []],hx,by kernel_rfl,?_⟩⟩)
    ·simp
    ·rw [h0]
     rfl
   ·refine Zag Zad Zac fil.noOrc_ok xo hx ?_ (fun qs a1 wd hq hx=>⟨nofun,fun _=>.inr (.inl ⟨rfl,?_⟩)⟩)
    ·simp [-Zae,Zab,Zaa,Base.ev,SX.ev,evs,Value.oneCell',binPV,Zaf,rl]
    simp [evs,SX.ev] at hq
    subst hq
    refine Zag Zad Zac fil.noOrc_ok fo hx ?_ (fun qs a1 wd hq hx=>⟨nofun,fun _=>⟨.inr rfl,shDR,_,[SX.var 0],hx,by kernel_rfl,?_⟩⟩)
    ·simp [-Zae,Zab,Zaa,Base.ev,SX.ev,evs,Value.oneCell',rl]
    ·simp [evs,SX.ev] at hq
     subst hq
     rfl

theorem put_neq (t':TypeId) (a b:Nat) (hab:Nat.beq a b=false) (n:Int) (s:ByteArray):opVal Tryz.prog (Op.binOp .neq 93 (Operand.tmp a) (Operand.tmp b) 93) t' [a,b] [.agg #[.int .i64 n,.string s],.agg #[.int .i64 n,.string s]]=some (.bool false):=by
 have hl : (Tryz.prog.fieldsOf 93).toList = [{ name := "At", type := 3, offset := 0, embedded := false, tag := "", pkgPath := "", byteOffset := 0 }, { name := "B", type := 9, offset := 1, embedded := false, tag := "", pkgPath := "", byteOffset := 8 }] := by kernel_rfl
 refine op_neq_refl Tryz.prog _ _ a b hab _ (by kernel_rfl) (pv_struct 9999 _ _ (by kernel_rfl) (by kernel_rfl) ?_)
 rw [hl]
 intro f hf
 simp only [List.mem_cons,List.not_mem_nil,or_false] at hf
 have hi:Tryz.prog.underlying 3=some (.int .i64):=by kernel_rfl
 have hs:Tryz.prog.underlying 9=some .string:=by kernel_rfl
 rcases hf with rfl | rfl
 ·exact ⟨.int .i64 n,pv_part _ _ _ _ (pv_isInt _ _ hi) rfl,pv_int _ _ _ _ _ hi⟩
 ·exact ⟨.string s,pv_part _ _ _ _ (pv_isStr _ hs) rfl,pv_str _ _ _ hs⟩
def RSPq (ps qs:List PV):Prop:=∃ xs:List (Int × ByteArray),xs.length<=1000000/\ps=[pRow encQ xs,pRow encQ xs]/\qs=[pB true]
theorem fSPq:∀ ps q1 q2,RSPq ps q1->RSPq ps q2->q1=q2:=by rintro ps q1 q2 ⟨_,_,_,rfl⟩ ⟨_,_,_,rfl⟩;rfl
theorem cutP:flP=flP.take 4++.block (Zao (nth flP 4)) (.loop (Zak (nth flP 4))) :: flP.drop 5:=by kernel_rfl
theorem toldSPq (k:Nat):ToldF 25 (ESP k) (spec RSPq):=by
 refine Zek (fun _ _=>none) _ (Zar Tryz.prog 25) Tryz.func25 (by kernel_rfl) shP (by kernel_rfl) ?_ ?_
 ·intro ps qs h
  obtain ⟨xs,_,rfl,rfl⟩:=Zaj h
  exact Zbd rfl
 ·intro C ps qs hF h a w hsh
  obtain ⟨xs,hl,rfl,rfl⟩:=Zaj h
  show wpL Tryz.prog flP _ a w
  rw [cutP]
  refine Zag Zad Zac fil.noOrc_ok pp hsh ?_ (fun qs a1 w1 hq h1=>⟨fun _=>?_,fun h=>absurd rfl h⟩)
  ·simp [Zab,Zaa,Base.ev,SX.ev,evs,Value.oneCell',Zaf,binPV]
  simp [evs,SX.ev] at hq
  subst hq
  refine Zau (fun q a w=>∃ i:Nat,q=xs.length - i/\i<=xs.length/\Zah C shPl [pRow encQ xs,pRow encQ xs,pI (i:Int)] a w) ?_ (n:=xs.length) ⟨0,by omega,by omega,h1⟩
  rintro q a w ⟨i,rfl,hi,hin⟩
  rw [<- List.append_nil (flat _)]
  by_cases hlt:i < xs.length
  ·obtain ⟨c0,c1⟩:=cellQ xs i hlt
   have ix:=Zaq encQ xs i 2 2 .i64 rfl hlt (by decide)
   have v3:IntKind.i64.wrap ((i:Int)+1)=(i:Int)+1:=wrapI _ (by omega) (by omega)
   have nq:=put_neq 4 20 24 rfl xs[i].1 xs[i].2
   generalize xs[i].2=b at *
   generalize xs[i].1=at1 at *
   refine Zag Zad Zac fil.noOrc_ok ps hin ?_ (fun qs a1 w1 hq h1=>⟨fun _=>.inl ⟨rfl,xs.length - (i+1),by omega,i+1,rfl,by omega,by simp [evs,SX.ev,binPV,v3] at hq;subst hq;exact h1⟩,fun h=>absurd rfl h⟩)
   simp [-Zae,Zab,Zaa,Base.ev,SX.ev,evs,Value.oneCell',Zaf,binPV,Ze8,PV.plain,v3,hlt,ix,c0,c1,nq]
  ·obtain rfl:i=xs.length:=by omega
   refine Zag Zad Zac fil.noOrc_ok px hin ?_ (fun qs a1 w1 hq h1=>⟨nofun,fun _=>.inr (.inl ⟨rfl,?_⟩)⟩)
   ·simp [Zab,Zaa,Base.ev,SX.ev,evs,Value.oneCell',Zaf,binPV]
   simp [evs,SX.ev] at hq
   subst hq
   rw [<- List.append_nil (flP.drop 5)]
   refine Zag Zad Zac fil.noOrc_ok pe h1 ?_ (fun qs a1 w1 hq h1=>⟨nofun,fun _=>⟨.inr rfl,shPR,_,[SX.var 0],h1,by kernel_rfl,by simp [evs,SX.ev] at hq;subst hq;rfl⟩⟩)
   simp [Zab,Zaa,Base.ev,SX.ev,evs,Value.oneCell',Zaf]

end Go.Proofs.YtefkakjegdjojaaGreat.idd
