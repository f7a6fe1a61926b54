/- LineGone by the symbolic engine. -/
import Derived.Test.YtaondjmimobnbaaWbg
import Derived.Test.YtaondjmimobnbaaWsw
import Derived.Test.YtaondjmimobnbaaGrd
namespace Go.Proofs.Ytaondjmimobnbaa.lineGone
open Go Go.RowKit eng SX Fact fil lem lea wlm wdr wwi wto wpu wah wli wsw grd
set_option linter.unusedVariables false
set_option linter.unusedSimpArgs false
set_option maxRecDepth 1000000

def hP (_:FuncId) (o:Oper):Option Hint:=match o.dst with | some d=>cond (Nat.beq d 79) (some .parts) (cond (Nat.beq d 45) (some .lazy) none) | none=>none
def tabL (f:FuncId):Option FnE:=cond (Nat.beq f 8) (some (EPu 1)) (cond (Nat.beq f 10) (some (EDw 2)) (cond (Nat.beq f 12) (some (ESw 4)) (cond (Nat.beq f 7) (some (ETrue 8)) none)))
noncomputable def flA:=flat (Zfl Try.prog 6)
noncomputable def lpA:=flat (Zcm (nth flA 7))
noncomputable def lpB:=flat (Zcm (nth flA 12))
def sh0:Shape:=⟨[(0,.leaf),(1,.leaf)],[],[some false,none],99,6⟩
def shA:Shape:=⟨[(0,.leaf),(1,.leaf),(5,.leaf),(6,.leaf)],[],[some false,none,some true,none],99,6⟩
def shB:Shape:=⟨[(5,.leaf),(7,.leaf),(8,.leaf),(9,.leaf),(10,.leaf)],[],[some true,none,some true,none,none],99,6⟩
def shR:Shape:=⟨[(4,.leaf)],[],[none],99,6⟩
@[simp] def zLgo1:List SX:=[.var 2,.bin .add (.con (.int .i64 1)) (.conv .i64 (.bin .rem (.cell (.var 0) (.var 3) 2 0) (.con (.int .u8 5)))),.bin .add (.con (.int .i64 1)) (.var 3),.bin .add (.con (.int .i64 1)) (.conv .i64 (.bin .rem (.cell (.var 0) (.var 3) 2 1) (.con (.int .u8 2)))),.con (.int .i64 1)]
@[simp] def zLgo2:SX:=.bin .add (.con (.int .i64 1)) (.conv .i64 (.bin .rem (.var 1) (.con (.int .u8 5))))
@[simp] def zLgo3:SX:=rop ROp.notB [rop ROp.allB [rop ROp.eqI [.cell (.var 2) (.var 3) 4 0,.cell (.var 0) (.var 4) 4 0],rop ROp.eqI [.cell (.var 2) (.var 3) 4 1,.cell (.var 0) (.var 4) 4 1],rop ROp.eqI [.cell (.var 2) (.var 3) 4 2,.cell (.var 0) (.var 4) 4 2],rop ROp.eqI [.cell (.var 2) (.var 3) 4 3,.cell (.var 0) (.var 4) 4 3]]]
@[simp] def zLgo4:SX:=.len (.var 0)
@[simp] def zLgo5:SX:=.con (.int .i64 1)
@[simp] def zLgo6:SX:=.cell (.var 0) (.var 4) 4 0
@[simp] def zLgo7:SX:=.bin .rem (.cell (.var 0) (.var 3) 2 0) (.con (.int .u8 5))
@[simp] def zLgo8:SX:=.bin .rem (.cell (.var 0) (.var 3) 2 1) (.con (.int .u8 2))
@[simp] def zLgo9:SX:=.bin .gtr zLgo4 (.con (.int .i64 20))
@[simp] def Zgl:SX:=.bin .add (.var 3) zLgo5
@[simp] def Zgk:SX:=.bin .lss (.var 4) zLgo4
@[simp] def Zgj:SX:=.bin .add (.var 4) zLgo5
@[simp] def Zgi:SX:=.con (.int .i64 0)
@[simp] def Zic:Fact:=.idx (.var 0) (.var 4) 4 4
@[simp] def Zib:SX:=.bin .lss (.var 3) zLgo4
@[simp] def Zia:SX:=.bin .eql zLgo6 (.var 1)
theorem q1:segTo Try.prog (orcFn tabL) 10000 flA sh0 [1,1] shR []=some (.ret,[.fn 7 (ETrue 8) [],.is (.fn 8 [] 0) (.bool true),.ok zLgo4,.ok zLgo9,.is zLgo9 (.bool true),.ok (.con (.bool true))],[.con (.bool true)]):=by kernel_rfl
theorem pre:segTo Try.prog (orcFn tabL) 10000 (flA.take 7) sh0 [1,0] shA []=some (.normal,[.fn 7 (ETrue 8) [],.is (.fn 8 [] 0) (.bool true),.ok zLgo4,.ok zLgo9,.is zLgo9 (.bool false),.ok (.var 1),.ok Zgi],[.var 0,.var 1,.lit 0 [],Zgi]):=by kernel_rfl
theorem bd:segTo Try.prog (orcFn tabL) 10000 lpA shA [1] shA [] hP=some (.normal,[.ok zLgo4,.ok Zib,.is Zib (.bool true),.idx (.var 0) (.var 3) 2 2,.idx (.var 0) (.var 3) 2 1,.ok (.cell (.var 0) (.var 3) 2 0),.ok zLgo7,.ok (.conv .i64 zLgo7),.ok (.bin .add zLgo5 (.conv .i64 zLgo7)),.ok (.bin .add zLgo5 (.var 3)),.idx (.var 0) (.var 3) 2 2,.idx (.var 0) (.var 3) 2 2,.ok (.cell (.var 0) (.var 3) 2 1),.ok zLgo8,.ok (.conv .i64 zLgo8),.ok (.bin .add zLgo5 (.conv .i64 zLgo8)),.fn 8 (EPu 1) zLgo1,.ok (.fn 1 zLgo1 1),.ok Zgl,.ok (.var 1),.ok Zgl],[.var 0,.var 1,.fn 1 zLgo1 0,Zgl]):=by kernel_rfl
theorem exA:segTo Try.prog (orcFn tabL) 10000 lpA shA [0] shA []=some (.exit 0,[.ok zLgo4,.ok Zib,.is Zib (.bool false),.ok (.var 1),.ok (.var 3)],[.var 0,.var 1,.var 2,.var 3]):=by kernel_rfl
theorem mid:segTo Try.prog (orcFn tabL) 10000 ((flA.drop 8).take 4) shA [] shB []=some (.normal,[.ok (.bin .rem (.var 1) (.con (.int .u8 5))),.ok (.conv .i64 (.bin .rem (.var 1) (.con (.int .u8 5)))),.ok zLgo2,.fn 10 (EDw 2) [.var 2,zLgo2],.ok zLgo2,.ok Zgi,.ok Zgi],[.var 2,zLgo2,.fn 2 [.var 2,zLgo2] 0,Zgi,Zgi]):=by kernel_rfl
theorem b1:segTo Try.prog (orcFn tabL) 10000 lpB shB [1,1] shB [] hP=some (.normal,[.ok zLgo4,.ok Zgk,.is Zgk (.bool true),Zic,.idx (.var 0) (.var 4) 4 1,.ok zLgo6,.ok Zia,.is Zia (.bool true),.ok Zgj,.ok (.var 1),.ok (.var 3),.ok Zgj],[.var 0,.var 1,.var 2,.var 3,Zgj]):=by kernel_rfl
theorem b0:segTo Try.prog (orcFn tabL) 10000 lpB shB [1,0,0,0] shB [] hP=some (.normal,[.ok zLgo4,.ok Zgk,.is Zgk (.bool true),Zic,.idx (.var 0) (.var 4) 4 1,.ok zLgo6,.ok Zia,.is Zia (.bool false),.ok (.len (.var 2)),.ok (.bin .geq (.var 3) (.len (.var 2))),.is (.bin .geq (.var 3) (.len (.var 2))) (.bool false),.idx (.var 2) (.var 3) 4 4,.idx (.var 2) (.var 3) 4 4,.ok (.cell (.var 2) (.var 3) 4 0),.ok (.cell (.var 2) (.var 3) 4 1),.ok (.cell (.var 2) (.var 3) 4 2),.ok (.cell (.var 2) (.var 3) 4 3),Zic,Zic,.ok zLgo6,.ok (.cell (.var 0) (.var 4) 4 1),.ok (.cell (.var 0) (.var 4) 4 2),.ok (.cell (.var 0) (.var 4) 4 3),.ok zLgo3,.is zLgo3 (.bool false),.ok Zgl,.ok Zgj,.ok (.var 1),.ok Zgl,.ok Zgj],[.var 0,.var 1,.var 2,Zgl,Zgj]):=by kernel_rfl
theorem exB:segTo Try.prog (orcFn tabL) 10000 lpB shB [0] shB []=some (.exit 2,[.ok zLgo4,.ok Zgk,.is Zgk (.bool false),.ok (.var 1),.ok (.var 3),.ok (.var 4)],[.var 0,.var 1,.var 2,.var 3,.var 4]):=by kernel_rfl
theorem post:segTo Try.prog (orcFn tabL) 10000 (flA.drop 13) shB [1,1,1] shR []=some (.ret,[.ok (.len (.var 2)),.ok (.bin .eql (.var 3) (.len (.var 2))),.is (.bin .eql (.var 3) (.len (.var 2))) (.bool true),.ok zLgo4,.ok (.bin .leq zLgo4 (.con (.int .i64 4))),.is (.bin .leq zLgo4 (.con (.int .i64 4))) (.bool true),.fn 10 (EDw 2) [.var 2,.var 1],.fn 12 (ESw 4) [.fn 2 [.var 2,.var 1] 0,.var 2],.is (.fn 4 [.fn 2 [.var 2,.var 1] 0,.var 2] 0) (.bool true),.ok (.con (.bool true))],[.con (.bool true)]):=by kernel_rfl
theorem pos2:0 < 2:=by decide
abbrev E2:=encK 2 pos2
theorem cutA:flA=flA.take 7++.block (Zdo (nth flA 7)) (.loop (Zcm (nth flA 7))) :: ((flA.drop 8).take 4++.block (Zdo (nth flA 12)) (.loop (Zcm (nth flA 12))) :: flA.drop 13):=by kernel_rfl
def ELaw (k:Nat):FnE:={ k:=k,ins:=[none,none],leaks:=[],outs:=[none],kinds:=[.truth] }
def RL (ps qs:List PV):Prop:=∃ (l:List (Nat->Nat)) (y:Nat),(∀ f ∈ l,∀ j,f j < 256)/\y < 256/\l.length<=9223372036854775807/\ps=[pRow E2 l,pU (y:Int)]/\qs=[pB true]
theorem fL:∀ ps q1 q2,RL ps q1->RL ps q2->q1=q2:=by
 rintro ps q1 q2 ⟨_,_,_,_,_,_,rfl⟩ ⟨_,_,_,_,_,_,rfl⟩;rfl
noncomputable def G:Fns:=fun k=>match k with | 1=>spec RPu | 2=>spec RDw | 4=>spec RSw | 8=>spec RTrue | _=>fun _=>none
theorem u1:ToldF 8 (EPu 1) (G 1):=toldPu 1
theorem u2:ToldF 10 (EDw 2) (G 2):=Zit 2
theorem u4:ToldF 12 (ESw 4) (G 4):=toldSw 4
theorem u8:ToldF 7 (ETrue 8) (G 8):=wbg.begunLit 8
theorem G1 {M:List LeM} {c s f m:Int} (h:M.length<=999999):G 1 [pRow encL M,pI c,pI s,pI f,pI m]=some [pRow encL (putB M (c,s,f,m)).1,pB (putB M (c,s,f,m)).2]:=Za4 fPu ⟨M,(c,s,f,m),h,rfl,rfl⟩
theorem G2 {M:List LeM} {c:Int} (h:M.length<=1000000):G 2 [pRow encL M,pI c]=some [pRow encL (dropW M c)]:=Za4 fDw ⟨M,c,h,rfl,rfl⟩
theorem G4 {M N:List LeM} (h:M.length<=1000000) (h2:N.length<=1000000):G 4 [pRow encL M,pRow encL N]=some [pB (decide (M=N))]:=Za4 fSw ⟨M,N,h,h2,rfl,rfl⟩
theorem G8:G 8 []=some [pB true]:=Za4 fTrue ⟨rfl,rfl⟩
theorem r_nil:PV.row 0 []=pRow encL []:=rfl
theorem k1:(EPu 1).k=1:=rfl
theorem k2:(EDw 2).k=2:=rfl
theorem k4:(ESw 4).k=4:=rfl
set_option maxHeartbeats 4000000 in
theorem told (k0:Nat):ToldF 6 (ELaw k0) (spec RL):=by
 refine told_by G _ (Zfl Try.prog 6) Try.func6 (by kernel_rfl) sh0 (by kernel_rfl) ?_ ?_
 ·intro ps qs h i hi
  obtain ⟨l,y,_,_,_,rfl,rfl⟩:=Zbc h
  simp [sh0] at hi
  match i,hi with
  | 0,hi=>simp at hi
  | 1,hi=>exact ⟨_,rfl,rfl⟩
  | i+2,hi=>simp at hi
 ·intro C ps qs hF h a w hsh
  obtain ⟨l,y,hz,hy,hl,rfl,rfl⟩:=Zbc h
  show wpL Try.prog flA _ a w
  have fin:∀ qs a1 w1,qs=[pB true]->Za8 C shR qs a1 w1->(AX.ret=.normal->wpL Try.prog [] (fun e a' w'=>(e=.normal \/ e=.ret)/\∃ sh' ps' es,Za8 C sh' ps' a' w'/\resTo Try.prog Try.f6 sh' (ELaw k0)=some es/\evs (fun i=>ps'[i]?) G es=some [pB true]) a1 w1)/\(AX.ret ≠ .normal->(AX.ret.to=.normal \/ AX.ret.to=.ret)/\∃ sh' ps' es,Za8 C sh' ps' a1 w1/\resTo Try.prog Try.f6 sh' (ELaw k0)=some es/\evs (fun i=>ps'[i]?) G es=some [pB true]):=by
   rintro qs a1 w1 rfl h1
   exact ⟨fun h=>(by cases h),fun _=>⟨.inr rfl,shR,_,[SX.var 0],h1,by kernel_rfl,rfl⟩⟩
  by_cases hl1:20 < l.length
  ·rw [<- List.append_nil flA]
   refine Zbi names_ok mixed_ok (Zbx _) q1 hsh ?_ (fun qs a1 w1 hq h1=>fin qs a1 w1 (by simp [evs,SX.ev] at hq;exact hq.symm) h1)
   simp only [fmC,fmN]
   simp [Zan,Zai,Base.ev,SX.ev,evs,Value.oneCell',hF,Zal,binPV,G8,u8]
   all_goals omega
  rw [cutA]
  refine Zbi names_ok mixed_ok (Zbx _) pre hsh ?_ ?_
  ·simp only [fmC,fmN]
   simp [Zan,Zai,Base.ev,SX.ev,evs,Value.oneCell',hF,Zal,binPV,G8,u8]
   all_goals omega
  intro qs a1 w1 hq h1
  refine ⟨fun _=>?_,fun h=>absurd rfl h⟩
  simp [evs,SX.ev,r_nil] at hq
  subst hq
  refine Ze8 (fun q' a w=>∃ (i:Nat) (M:List LeM),i<=l.length/\q'=l.length - i/\M.length<=4/\Za8 C shA [pRow E2 l,pU (y:Int),pRow encL M,pI (i:Int)] a w) ?_ (n:=l.length) ⟨0,[],by omega,by omega,by simp,h1⟩
  rintro q' a w ⟨i,M,hi,rfl,hM,hin⟩
  show wpL Try.prog lpA _ a w
  rw [<- List.append_nil lpA]
  by_cases hlt:i < l.length
  ·have hzi:=hz _ (List.getElem_mem hlt)
   have c0:Zcz (pRow E2 l) (pI (i:Int)) 2 0=some (pU (l[i] 0:Int)):=cellK 2 _ l i hlt 0 (by omega)
   have c1:Zcz (pRow E2 l) (pI (i:Int)) 2 1=some (pU (l[i] 1:Int)):=cellK 2 _ l i hlt 1 (by omega)
   have i1:=Zco E2 l i 2 1 .i64 rfl hlt (by decide)
   have i2:=Zco E2 l i 2 2 .i64 rfl hlt (by decide)
   have v3:IntKind.i64.wrap ((i:Int)+1)=(i:Int)+1:=wrapI _ (by omega) (by omega)
   have v4:IntKind.i64.wrap (1+(i:Int))=1+(i:Int):=wrapI _ (by omega) (by omega)
   generalize l[i]=f at *
   obtain ⟨x0,h0⟩:∃ x0:Nat,f 0 % 5=x0:=⟨_,rfl⟩
   obtain ⟨x1,h1'⟩:∃ x1:Nat,f 1 % 2=x1:=⟨_,rfl⟩
   have t0:(f 0:Int).tmod 5=(x0:Int):=by rw [<- h0];rfl
   have t1:(f 1:Int).tmod 2=(x1:Int):=by rw [<- h1'];rfl
   have w0:IntKind.i64.wrap (x0:Int)=(x0:Int):=wrapI _ (by omega) (by omega)
   have w1':IntKind.i64.wrap (x1:Int)=(x1:Int):=wrapI _ (by omega) (by omega)
   have wc:IntKind.i64.wrap (1+(x0:Int))=1+(x0:Int):=wrapI _ (by omega) (by omega)
   have wf:IntKind.i64.wrap (1+(x1:Int))=1+(x1:Int):=wrapI _ (by omega) (by omega)
   have e1:=G1 (c:=1+(x0:Int)) (s:=1+(i:Int)) (f:=1+(x1:Int)) (m:=1) (show M.length<=999999 by omega)
   have hM2:=put_len (1+(x0:Int),1+(i:Int),1+(x1:Int),1) hM
   generalize putB M (1+(x0:Int),1+(i:Int),1+(x1:Int),1)=MB at *
   obtain ⟨M2,ok⟩:=MB
   simp only at e1 hM2
   refine Zbi names_ok mixed_ok (Zbx _) bd hin ?_ ?_
   ·simp only [fmC,fmN]
    simp [Zan,Zai,Base.ev,SX.ev,evs,Value.oneCell',hF,Zal,binPV,Zd6,c0,c1,i1,i2,t0,t1,w0,w1',wc,wf,v3,v4,e1,u1,lineGone.k1,hlt]
   ·intro qs a1' w1 hq h1
    refine ⟨fun _=>.inl ⟨rfl,l.length - (i+1),by omega,i+1,M2,by omega,rfl,hM2,?_⟩,fun h=>absurd rfl h⟩
    simp [evs,SX.ev,hF,binPV,Zd6,c0,c1,t0,t1,w0,w1',wc,wf,v3,v4,e1] at hq
    subst hq
    exact h1
  ·have hie:i=l.length:=by omega
   subst hie
   refine Zbi names_ok mixed_ok (Zbx _) exA hin ?_ ?_
   ·simp only [fmC,fmN]
    simp [Zan,Zai,Base.ev,SX.ev,evs,Value.oneCell',Zal,binPV]
   ·intro qs a1' w1 hq h1
    refine ⟨fun h=>(by cases h),fun _=>.inr (.inl ⟨by rw [show Zdo (nth flA 7)=0 by kernel_rfl];rfl,?_⟩)⟩
    simp [evs,SX.ev] at hq
    subst hq
    obtain ⟨z,hz5⟩:∃ z:Nat,y % 5=z:=⟨_,rfl⟩
    have ty:(y:Int).tmod 5=(z:Int):=by rw [<- hz5];rfl
    have wz:IntKind.i64.wrap (z:Int)=(z:Int):=wrapI _ (by omega) (by omega)
    have wz1:IntKind.i64.wrap (1+(z:Int))=1+(z:Int):=wrapI _ (by omega) (by omega)
    obtain ⟨c,hc⟩:∃ c:Int,1+(z:Int)=c:=⟨_,rfl⟩
    rw [hc] at wz1
    have e2:=G2 (M:=M) (c:=c) (by omega)
    refine Zbi names_ok mixed_ok (Zbx _) mid h1 ?_ ?_
    ·simp only [fmC,fmN]
     simp [Zan,Zai,Base.ev,SX.ev,evs,Value.oneCell',hF,binPV,Zd6,ty,wz,hc,wz1,e2,u2,lineGone.k2]
    intro qs a2 w2 hq h2
    refine ⟨fun _=>?_,fun h=>absurd rfl h⟩
    simp [evs,SX.ev,hF,binPV,Zd6,ty,wz,hc,wz1,e2] at hq
    subst hq
    clear hc wz1 wz ty hz5
    have d0:=Zdy M c
    refine Ze8 (fun q' a w=>∃ (i:Nat),i<=M.length/\q'=M.length - i/\Za8 C shB [pRow encL M,pI c,pRow encL (dropW M c),pI ((dropW (M.take i) c).length:Int),pI (i:Int)] a w) ?_ (n:=M.length) ⟨0,by omega,by omega,by simpa [dropW] using h2⟩
    rintro q' a w ⟨i,hi,rfl,hin⟩
    show wpL Try.prog lpB _ a w
    rw [<- List.append_nil lpB]
    by_cases hlt:i < M.length
    ·obtain ⟨c0',c1',c2',c3'⟩:=cellL M i hlt
     have ix:=Zco encL M i 4 4 .i64 rfl hlt (by decide)
     have ix1:=Zco encL M i 4 1 .i64 rfl hlt (by decide)
     have v3:IntKind.i64.wrap ((i:Int)+1)=(i:Int)+1:=wrapI _ (by omega) (by omega)
     have hst:=drop_step hlt c
     by_cases d:M[i].1=c
     ·rw [if_pos d,List.append_nil] at hst
      refine Zbi names_ok mixed_ok (Zbx _) b1 hin ?_ ?_
      ·simp only [fmC,fmN]
       simp [Zan,Zai,Base.ev,SX.ev,evs,Value.oneCell',Zal,binPV,c0',c1',c2',c3',ix,ix1,v3,hlt,d]
      ·intro qs a3 w3 hq h3
       refine ⟨fun _=>.inl ⟨rfl,M.length - (i+1),by omega,i+1,by omega,rfl,?_⟩,fun h=>absurd rfl h⟩
       simp [evs,SX.ev,binPV,v3] at hq
       subst hq
       rw [hst]
       exact h3
     ·rw [if_neg d] at hst
      obtain ⟨hn,hx⟩:=drop_at hlt d
      obtain ⟨d0',d1',d2',d3'⟩:=cellL (dropW M c) _ hn
      have iy:=Zco encL (dropW M c) _ 4 4 .i64 rfl hn (by decide)
      rw [hx] at d0' d1' d2' d3'
      have hl2:(dropW (M.take (i+1)) c).length=(dropW (M.take i) c).length+1:=by rw [hst,List.length_append];rfl
      generalize (dropW (M.take i) c).length=n at *
      have v5:IntKind.i64.wrap ((n:Int)+1)=(n:Int)+1:=wrapI _ (by omega) (by omega)
      obtain ⟨t1,t2,t3,t4,r1,r2,r3,r4,ra⟩:=cmpL M[i] M[i]
      rw [Zfx.2 rfl] at ra
      have rn:ropPV .notB [pB true]=some (pB false):=rfl
      have hng:¬ ((dropW M c).length:Int)<=(n:Int):=by omega
      refine Zbi names_ok mixed_ok (Zbx _) b0 hin ?_ ?_
      ·simp only [fmC,fmN]
       simp [Zan,Zai,Base.ev,SX.ev,evs,Value.oneCell',Zal,binPV,c0',c1',c2',c3',d0',d1',d2',d3',ix,ix1,iy,v3,v5,hlt,d,hng,r1,r2,r3,r4,ra,rn]
      ·intro qs a3 w3 hq h3
       refine ⟨fun _=>.inl ⟨rfl,M.length - (i+1),by omega,i+1,by omega,rfl,?_⟩,fun h=>absurd rfl h⟩
       simp [evs,SX.ev,binPV,v3,v5] at hq
       subst hq
       rw [hl2]
       exact h3
    ·have hie:i=M.length:=by omega
     subst hie
     rw [List.take_length] at hin
     refine Zbi names_ok mixed_ok (Zbx _) exB hin ?_ ?_
     ·simp only [fmC,fmN]
      simp [Zan,Zai,Base.ev,SX.ev,evs,Value.oneCell',Zal,binPV]
     ·intro qs a3 w3 hq h3
      refine ⟨fun h=>(by cases h),fun _=>.inr (.inl ⟨by rw [show Zdo (nth flA 12)=2 by kernel_rfl];rfl,?_⟩)⟩
      simp [evs,SX.ev] at hq
      subst hq
      have e3:=G2 (M:=dropW M c) (c:=c) (by omega)
      rw [drop_twice] at e3
      have e4:=G4 (M:=dropW M c) (N:=dropW M c) (by omega) (by omega)
      rw [decide_eq_true rfl] at e4
      rw [<- List.append_nil (flA.drop 13)]
      generalize dropW M c=N at *
      refine Zbi names_ok mixed_ok (Zbx _) post h3 ?_ (fun qs a1 w1 hq h1=>fin qs a1 w1 (by simp [evs,SX.ev] at hq;exact hq.symm) h1)
      simp only [fmC,fmN]
      simp [Zan,Zai,Base.ev,SX.ev,evs,Value.oneCell',hF,Zal,binPV,e3,e4,u2,u4,lineGone.k2,lineGone.k4]
      all_goals omega
theorem walk (w:World) (v:Value) (len:Nat) (Z:Nat->Nat->Int) (h:IsGrid 2 w v len Z) (a1:Int) (w1:(Lit.int .u8 a1).wf=true) :
  Calls Try.prog 6 #[v,.int .u8 a1] w fun e w'=>e=.returned (.bool true)/\Ex w w':=by
 obtain ⟨l,hb,hr⟩:=gridK pos2 h
 have hb2:=bounds_u8 w1
 obtain ⟨y,rfl⟩:∃ n:Nat,a1=(n:Int):=⟨a1.toNat,by omega⟩
 refine told_true (told 0) rfl (us:=[v,.int .u8 (y:Int)]) (ps:=[pRow E2 l,pU (y:Int)]) (Za4 fL ⟨l,y,hb,by omega,reads_len hr,rfl,rfl⟩) rfl rfl (fun i p u hp hu=>?_)
 match i,hp,hu with
 | 0,hp,hu=>simp at hp hu;subst hp;subst hu;exact hr
 | 1,hp,hu=>simp at hp hu;subst hp;subst hu;simp only [Reads];exact ⟨trivial,rfl⟩
 | i+2,hp,hu=>simp at hp
end Go.Proofs.Ytaondjmimobnbaa.lineGone
