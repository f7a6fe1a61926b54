/- Texts joined. -/
import Derived.Test.YtpnegheknjeljaaGreatEng31
import Derived.Test.YtpnegheknjeljaaGreatEngDsk
import Derived.Test.YtpnegheknjeljaaGreatIpd
import Derived.Test.YtpnegheknjeljaaGreatIti
import Derived.Test.YtpnegheknjeljaaGreatSymD
section
/- StoreForms: a closed run over package image, told. -/
namespace Go.Proofs.YtpnegheknjeljaaGreat.storeForms
open Go Go.RowKit eng SX Fact fil ima symD sta ise
open ipd (EPuI RPuI fPuI)
open iti (ETi RTi fTi ansT mayR)
open irs (rdS)
open dirs (encF FileM)
set_option linter.unusedVariables false
set_option linter.unusedSimpArgs false
set_option maxRecDepth 1000000

def decS:List SX->Option (List ByteArray)
 | []=>some []
 | .con (.string b) :: r=>(decS r).map (b :: ·)
 | _=>none
theorem Zqm:∀ {es:List SX} {l:List ByteArray},decS es=some l->evs0 es=some ((encS.all l).map PV.v)
 | [],l,h=>by simp [decS] at h;subst h;rfl
 | e :: es,l,h=>by
  unfold decS at h
  split at h
  ·rename_i he;cases he
  ·rename_i b r he
   cases he
   simp only [Option.map_eq_some_iff] at h
   obtain ⟨l',h1,rfl⟩:=h
   simp [evs0,ev0,Zqm h1,Enc.all_cons,encS]
  ·cases h
def decF:List SX->Option (List FileM)
 | []=>some []
 | .con (.string a) :: .con (.int .i64 n) :: .con (.string b) :: r=>(decF r).map ((a,n,b) :: ·)
 | _=>none
theorem decF_ok:∀ (k:Nat) {es:List SX} {l:List FileM},es.length<=k->decF es=some l->evs0 es=some ((encF.all l).map PV.v)
 | 0,es,l,hk,h=>by
  obtain rfl:es=[]:=List.eq_nil_of_length_eq_zero (by omega)
  simp [decF] at h;subst h;rfl
 | k+1,es,l,hk,h=>by
  unfold decF at h
  split at h
  ·cases h;rfl
  ·rename_i a n b r
   simp only [Option.map_eq_some_iff] at h
   obtain ⟨l',h1,rfl⟩:=h
   simp [evs0,ev0,decF_ok k (es:=r) (by simp at hk;omega) h1,Enc.all_cons,encF]
  ·cases h
def decM:List SX->Option (List MarkM)
 | []=>some []
 | .con (.int .i64 a) :: .con (.int .i64 b) :: .con (.int .i64 c) :: .con (.int .i64 d) :: r=>(decM r).map ((a,b,c,d) :: ·)
 | _=>none
theorem decM_ok:∀ (k:Nat) {es:List SX} {l:List MarkM},es.length<=k->decM es=some l->evs0 es=some ((encM.all l).map PV.v)
 | 0,es,l,hk,h=>by
  obtain rfl:es=[]:=List.eq_nil_of_length_eq_zero (by omega)
  simp [decM] at h;subst h;rfl
 | k+1,es,l,hk,h=>by
  unfold decM at h
  split at h
  ·cases h;rfl
  ·rename_i a b c d r
   simp only [Option.map_eq_some_iff] at h
   obtain ⟨l',h1,rfl⟩:=h
   simp [evs0,ev0,decM_ok k (es:=r) (by simp at hk;omega) h1,Enc.all_cons,encM]
  ·cases h
def sxS (l:List ByteArray):SX:=.lit l.length (l.map fun b=>.con (.string b))
theorem sxS_ok (l:List ByteArray):ev0 (sxS l)=some (pRow encS l):=by
 have:∀ l:List ByteArray,evs0 (l.map fun b=>SX.con (.string b))=some ((encS.all l).map PV.v):=fun l=>by
  induction l with
  | nil=>rfl
  | cons b l ih=>simp [evs0,ev0,ih,Enc.all_cons,encS]
 simp [sxS,ev0,this,pRow]
def sxF (l:List FileM):SX:=.lit l.length (l.flatMap fun f=>[.con (.string f.1),.con (.int .i64 f.2.1),.con (.string f.2.2)])
theorem sxF_ok (l:List FileM):ev0 (sxF l)=some (pRow encF l):=by
 have:∀ l:List FileM,evs0 (l.flatMap fun f=>[SX.con (.string f.1),.con (.int .i64 f.2.1),.con (.string f.2.2)])=some ((encF.all l).map PV.v):=fun l=>by
  induction l with
  | nil=>rfl
  | cons b l ih=>simp [evs0,ev0,ih,Enc.all_cons,encF]
 simp only [sxF,ev0,this,pRow,Option.map_some]
def sxM (l:List MarkM):SX:=.lit l.length (l.flatMap fun m=>[.con (.int .i64 m.1),.con (.int .i64 m.2.1),.con (.int .i64 m.2.2.1),.con (.int .i64 m.2.2.2)])
theorem sxM_ok (l:List MarkM):ev0 (sxM l)=some (pRow encM l):=by
 have:∀ l:List MarkM,evs0 (l.flatMap fun m=>[SX.con (.int .i64 m.1),.con (.int .i64 m.2.1),.con (.int .i64 m.2.2.1),.con (.int .i64 m.2.2.2)])=some ((encM.all l).map PV.v):=fun l=>by
  induction l with
  | nil=>rfl
  | cons b l ih=>simp [evs0,ev0,ih,Enc.all_cons,encM]
 simp only [sxM,ev0,this,pRow,Option.map_some]
def smallF (l:List FileM):Bool:=l.all fun f=>Nat.ble f.1.size 1000 && Nat.ble f.2.2.size 1000
def Zrk:List SX->Option (List SX)
 | [.lit n fs,.lit k ms,.con (.int .i64 e)]=>(decF fs).bind fun fl=>(decM ms).bind fun ml=>cond (Nat.beq fl.length n && Nat.beq ml.length k && Nat.ble n 1000 && Nat.ble k 1000 && smallF fl) (some [sxS (putI ⟨fl,ml,e⟩)]) none
 | _=>none
theorem litPut_ok:LitOk 68 (EPuI 1) Zrk:=by
 refine ⟨spec RPuI,ipd.toldPuI 1,?_⟩
 intro es rs h
 unfold Zrk at h
 split at h
 ·rename_i n fs k ms e
  simp only [Option.bind_eq_some_iff,cond_eq_ite] at h
  obtain ⟨fl,h1,ml,h2,h⟩:=h
  split at h
  ·rename_i hc
   simp only [Bool.and_eq_true,Nat.beq_eq,Nat.ble_eq,smallF,List.all_eq_true] at hc
   obtain ⟨⟨⟨⟨rfl,rfl⟩,h3⟩,h4⟩,h5⟩:=hc
   cases h
   refine ⟨pSt ⟨fl,ml,e⟩,[pRow encS (putI ⟨fl,ml,e⟩)],?_,Zap fPuI ⟨_,⟨by show fl.length<=_;omega,by show ml.length<=_;omega,fun f hf=>by
    have:=h5 f hf
    omega⟩,rfl,rfl⟩,?_⟩
   ·simp [evs0,ev0,decF_ok _ (Nat.le_refl _) h1,decM_ok _ (Nat.le_refl _) h2,pSt,pRow]
   ·simp [evs0,sxS_ok]
  ·cases h
 ·cases h
def mayB (l:List ByteArray):Bool:=match rdS (catB l) with | .ok (s,_)=>mayS s | .error _=>true
theorem mayB_ok {l:List ByteArray} (h:mayB l=true):mayR l:=by
 intro s r hr
 unfold mayB at h
 rw [hr] at h
 exact Zmd.1 h
def sxT:Option StM->List SX
 | some s=>[sxF s.files,sxM s.marks,.con (.int .i64 s.epoch),.con (.bool true)]
 | none=>[.lit 0 [],.lit 0 [],.con (.int .i64 0),.con (.bool false)]
theorem sxT_ok (o:Option StM):evs0 (sxT o)=some (ansT o):=by
 cases o with
 | none=>rfl
 | some s=>simp [sxT,evs0,sxF_ok,sxM_ok,ev0,ansT,pSt]
def ETn (k:Nat):FnE:={ ETi k with kinds:=[.row,.row,.num,.num] }
def Zqe:List SX->Option (List SX)
 | [.lit n ss]=>(decS ss).bind fun l=>cond (Nat.beq l.length n && Nat.ble n 1000 && mayB l) (some (sxT (takeI l))) none
 | _=>none
theorem litTake_ok:LitOk 80 (ETn 2) Zqe:=by
 refine ⟨spec RTi,Zjs (iti.toldTi 2) rfl rfl rfl rfl rfl,?_⟩
 intro es rs h
 unfold Zqe at h
 split at h
 ·rename_i n ss
  simp only [Option.bind_eq_some_iff,cond_eq_ite] at h
  obtain ⟨l,h1,h⟩:=h
  split at h
  ·rename_i hc
   simp only [Bool.and_eq_true,Nat.beq_eq,Nat.ble_eq] at hc
   obtain ⟨⟨rfl,h3⟩,h4⟩:=hc
   cases h
   exact ⟨[pRow encS l],ansT (takeI l),by simp [evs0,ev0,Zqm h1,pRow],Zap fTi ⟨l,by omega,mayB_ok h4,rfl,rfl⟩,sxT_ok _⟩
  ·cases h
 ·cases h
def tabL (f:FuncId):Option (FnE × (List SX->Option (List SX))):=cond (Nat.beq f 68) (some (EPuI 1,Zrk)) (cond (Nat.beq f 80) (some (ETn 2,Zqe)) none)
theorem tabL_ok:∀ f E lit,tabL f=some (E,lit)->LitOk f E lit:=by
 intro f E lit h
 simp only [tabL,cond_eq_ite,Nat.beq_eq] at h
 split at h
 ·rename_i hf;subst hf;cases h;exact litPut_ok
 ·split at h
  ·rename_i hf;subst hf;cases h;exact litTake_ok
  ·cases h
end Go.Proofs.YtpnegheknjeljaaGreat.storeForms
end
section
/- Texts joined. -/
section
/- StoreForms: the disk, told at rows that are Zgg down. -/
namespace Go.Proofs.YtpnegheknjeljaaGreat.storeForms
open Go Go.RowKit eng SX Fact symD
open dsk (D encP readD Zel Zf7)
set_option linter.unusedVariables false
set_option maxRecDepth 1000000
def decP:List SX->Option (List (Nat × ByteArray))
 | []=>some []
 | .con (.int .i64 (.ofNat n)) :: .con (.string b) :: r=>(decP r).map ((n,b) :: ·)
 | _=>none
theorem decP_ok:∀ (k:Nat) {es:List SX} {l:List (Nat × ByteArray)},es.length<=k->decP es=some l->evs0 es=some ((encP.all l).map PV.v)
 | 0,es,l,hk,h=>by
  obtain rfl:es=[]:=List.eq_nil_of_length_eq_zero (by omega)
  simp [decP] at h;subst h;rfl
 | k+1,es,l,hk,h=>by
  unfold decP at h
  split at h
  ·cases h;rfl
  ·rename_i n b r
   simp only [Option.map_eq_some_iff] at h
   obtain ⟨l',h1,rfl⟩:=h
   simp [evs0,ev0,decP_ok k (es:=r) (by simp at hk;omega) h1,Enc.all_cons,encP]
  ·cases h
def sxP (l:List (Nat × ByteArray)):SX:=.lit l.length (l.flatMap fun p=>[.con (.int .i64 (p.1:Int)),.con (.string p.2)])
theorem sxP_ok (l:List (Nat × ByteArray)):ev0 (sxP l)=some (pRow encP l):=by
 have:∀ l:List (Nat × ByteArray),evs0 (l.flatMap fun p=>[SX.con (.int .i64 (p.1:Int)),.con (.string p.2)])=some ((encP.all l).map PV.v):=fun l=>by
  induction l with
  | nil=>rfl
  | cons b l ih=>simp [evs0,ev0,ih,Enc.all_cons,encP]
 simp only [sxP,ev0,this,pRow,Option.map_some]
def okB (d:D):Bool:=Nat.ble d.last.length 64 && d.last.all (fun s=>Nat.beq s.size 32) && d.wait.all (fun p=>Nat.blt p.1 d.last.length && Nat.beq p.2.size 32) && Nat.ble d.wait.length 1000 && Nat.ble d.arm 1000
theorem okB_ok {d:D} (h:okB d=true):d.ok:=by
 simp only [okB,Bool.and_eq_true,Nat.ble_eq,List.all_eq_true,Nat.beq_eq,Nat.blt_eq] at h
 exact ⟨h.1.1.1.1,h.1.1.1.2,h.1.1.2,h.1.2,h.2⟩
def decD:List SX->Option (D × List SX)
 | .lit n ss :: .lit k ws :: .con (.int .i64 (.ofNat a)) :: .con (.bool b) :: r=>(decS ss).bind fun l=>(decP ws).bind fun w=>cond (okB ⟨l,w,a,b⟩ && Nat.beq l.length n && Nat.beq w.length k) (some (⟨l,w,a,b⟩,r)) none
 | _=>none
theorem Zqn {es r:List SX} {d:D} (h:decD es=some (d,r)):d.ok/\∀ qs,evs0 r=some qs->evs0 es=some (pD d++qs):=by
 unfold decD at h
 split at h
 ·rename_i n ss k ws a b r'
  simp only [Option.bind_eq_some_iff,cond_eq_ite] at h
  obtain ⟨l,h1,w,h2,h⟩:=h
  split at h
  ·rename_i hc
   simp only [Bool.and_eq_true,Nat.beq_eq] at hc
   obtain ⟨⟨h3,rfl⟩,rfl⟩:=hc
   cases h
   refine ⟨okB_ok h3,fun qs hq=>?_⟩
   simp [evs0,ev0,Zqm h1,decP_ok _ (Nat.le_refl _) h2,hq,pD,pRow]
  ·cases h
 ·cases h
def sxD (d:D):List SX:=[sxS d.last,sxP d.wait,.con (.int .i64 (d.arm:Int)),.con (.bool d.down)]
theorem sxD_ok (d:D) (b:Bool):evs0 (sxD d++[.con (.bool b)])=some (pD d++[pB b]):=by
 simp [sxD,evs0,sxS_ok,sxP_ok,ev0,pD]
def litW (es:List SX):Option (List SX):=match decD es with
 | some (d,[.con (.int .i64 i),.con (.string s)])=>some (sxD (Zel d i s).1++[.con (.bool (Zel d i s).2)])
 | _=>none
def litR (es:List SX):Option (List SX):=match decD es with
 | some (d,[.con (.int .i64 i)])=>some [.con (.string (readD d i).1),.con (.bool (readD d i).2)]
 | _=>none
def litF (es:List SX):Option (List SX):=match decD es with
 | some (d,[])=>some (sxD (Zf7 d).1++[.con (.bool (Zf7 d).2)])
 | _=>none
theorem litW_ok:LitOk 55 { Zr7 3 with kinds:=[.row,.row,.num,.num,.num] } litW:=by
 refine ⟨spec Zq8,Zjs (toldWrite 3) rfl rfl rfl rfl rfl,?_⟩
 intro es rs h
 unfold litW at h
 split at h
 ·rename_i d i s hd
  cases h
  obtain ⟨h1,h2⟩:=Zqn hd
  exact ⟨_,_,h2 [pI i,pS s] rfl,Zap fWrite ⟨d,i,s,h1,rfl,rfl⟩,sxD_ok _ _⟩
 ·cases h
theorem litR_ok:LitOk 124 { ERead 4 with kinds:=[.num,.num] } litR:=by
 refine ⟨spec RRead,Zjs (toldRead 4) rfl rfl rfl rfl rfl,?_⟩
 intro es rs h
 unfold litR at h
 split at h
 ·rename_i d i hd
  cases h
  obtain ⟨h1,h2⟩:=Zqn hd
  exact ⟨_,_,h2 [pI i] rfl,Zap fRead ⟨d,i,h1,rfl,rfl⟩,rfl⟩
 ·cases h
theorem litF_ok:LitOk 56 { Zn7 5 with kinds:=[.row,.row,.num,.num,.num] } litF:=by
 refine ⟨spec Zom,Zjs (toldFlush 5) rfl rfl rfl rfl rfl,?_⟩
 intro es rs h
 unfold litF at h
 split at h
 ·rename_i d hd
  cases h
  obtain ⟨h1,h2⟩:=Zqn hd
  exact ⟨_,_,h2 [] rfl,Zap fFlush ⟨d,h1,by simp,rfl⟩,sxD_ok _ _⟩
 ·cases h
def tabK (f:FuncId):Option (FnE × (List SX->Option (List SX))):=cond (Nat.beq f 55) (some ({ Zr7 3 with kinds:=[.row,.row,.num,.num,.num] },litW)) (cond (Nat.beq f 124) (some ({ ERead 4 with kinds:=[.num,.num] },litR)) (cond (Nat.beq f 56) (some ({ Zn7 5 with kinds:=[.row,.row,.num,.num,.num] },litF)) (tabL f)))
theorem tabK_ok:∀ f E lit,tabK f=some (E,lit)->LitOk f E lit:=by
 intro f E lit h
 simp only [tabK,cond_eq_ite,Nat.beq_eq] at h
 split at h
 ·rename_i hf;subst hf;cases h;exact litW_ok
 ·split at h
  ·rename_i hf;subst hf;cases h;exact litR_ok
  ·split at h
   ·rename_i hf;subst hf;cases h;exact litF_ok
   ·exact tabL_ok f E lit h
def orcK:Orc:=orcOr (Zpr tabK) orcD
theorem orcK_ok:OrcOk Tryz.prog orcK:=Zjy (orcLit_ok tabK tabK_ok) orcD_ok
end Go.Proofs.YtpnegheknjeljaaGreat.storeForms
end
section
/- Texts joined. -/
section
/- StoreForms: begun, by a closed run. -/
namespace Go.Proofs.YtpnegheknjeljaaGreat.storeForms
open Go Go.RowKit eng SX Fact fil ima symD sta ise
set_option linter.unusedVariables false
set_option maxRecDepth 1000000
theorem ranB:Znn (runTo Tryz.prog orcK 100000 7 (ETrue 8) [] [] hStop)=true:=by kernel_rfl
theorem begunLit (k:Nat):ToldF 7 (ETrue 8) (spec RTrue):=told_lit fil.mixed_ok fil.names_ok orcK_ok (fun ps qs h=>Zah h) ranB
end Go.Proofs.YtpnegheknjeljaaGreat.storeForms
end
section
/- StoreForms: the law, by a closed run. -/
namespace Go.Proofs.YtpnegheknjeljaaGreat.storeForms
open Go Go.RowKit eng SX Fact fil ima symD sta ise
set_option linter.unusedVariables false
set_option maxRecDepth 1000000
def litB:List SX->Option (List SX) | []=>some [.con (.bool true)] | _=>none
theorem litB_ok:LitOk 7 (ETrue 8) litB:=by
 refine ⟨spec RTrue,begunLit 0,?_⟩
 intro es rs h
 unfold litB at h
 split at h
 ·cases h;exact ⟨[],[.v (.bool true)],rfl,Zap fTrue ⟨rfl,rfl⟩,rfl⟩
 ·cases h
def tabM (f:FuncId):Option (FnE × (List SX->Option (List SX))):=cond (Nat.beq f 7) (some (ETrue 8,litB)) (tabK f)
theorem tabM_ok:∀ f E lit,tabM f=some (E,lit)->LitOk f E lit:=by
 intro f E lit h
 simp only [tabM,cond_eq_ite,Nat.beq_eq] at h
 split at h
 ·rename_i hf;subst hf;cases h;exact litB_ok
 ·exact tabK_ok f E lit h
def orcT:Orc:=orcOr (Zpr tabM) orcD
theorem orcT_ok:OrcOk Tryz.prog orcT:=Zjy (orcLit_ok tabM tabM_ok) orcD_ok
theorem ranF:Znn (runTo Tryz.prog orcT 100000 4 (ETrue 9) [] [] hStop)=true:=by kernel_rfl
theorem told:ToldF 4 (ETrue 9) (spec RTrue):=told_lit fil.mixed_ok fil.names_ok orcT_ok (fun ps qs h=>Zah h) ranF
theorem walk (w:World):Calls Tryz.prog 4 #[] w fun e w'=>e=.returned (.bool true)/\Ex w w':=by
 refine told_true told rfl (us:=[]) (ps:=[]) (Zap fTrue ⟨rfl,rfl⟩) rfl rfl (fun i p u hp hu=>by simp at hp)
end Go.Proofs.YtpnegheknjeljaaGreat.storeForms
end
end
end
