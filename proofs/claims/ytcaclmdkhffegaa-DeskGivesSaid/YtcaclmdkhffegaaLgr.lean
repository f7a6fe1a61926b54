/- Texts joined. -/
import Derived.Test.YtcaclmdkhffegaaLea
import Derived.Shelf.RegionOpenPlain
import Derived.Laws.IdiomStrings
import Derived.Recover
import Derived.Test.YtcaclmdkhffegaaLhd
import Derived.Lib.MinMax
section
/- Texts joined. -/
section
/- Texts joined. -/
section
/- lease.Holds where there is no such lease, by hand. -/
namespace Go.Proofs.Ytcaclmdkhffegaa.lho
open Go Go.RowKit eng SX Fact fil lem lea
set_option maxRecDepth 100000
set_option linter.unusedVariables false
set_option linter.unusedSimpArgs false
theorem Zkc {w:World} {l:Value} {xs:List LeM} (h:RowE encL w l xs):Reads w (pRow encL xs) l:=by
 obtain ⟨a,cap,rfl,h1,h2,h3⟩:=h
 simp only [pRow,Reads]
 refine ⟨a,cap,rfl,h1,h2,?_⟩
 rcases Nat.eq_zero_or_pos xs.length with h0 | h0
 ·left
  rw [List.eq_nil_of_length_eq_zero h0];rfl
 ·obtain ⟨b,off,rfl,_,hc⟩:=h3 h0
  refine .inr ⟨b,off,rfl,Za8.of fun j p hj=>?_⟩
  rw [List.getElem?_map,Option.map_eq_some_iff] at hj
  obtain ⟨v,hv,rfl⟩:=hj
  exact ⟨v,hc j v hv,rfl,encL.all_one' xs v (List.mem_of_getElem? hv)⟩
end Go.Proofs.Ytcaclmdkhffegaa.lho
end
section
/- What is recovered in package lease, by hand; Holds where there is no such lease. -/
namespace Go.Proofs.Ytcaclmdkhffegaa.lhp
open Go Go.RowKit eng SX Fact fil lem lea lho
set_option maxRecDepth 100000
set_option linter.unusedVariables false
set_option linter.unusedSimpArgs false

theorem rec_idle (w:World) :
  CallsD Try.prog 88 #[] .returning w fun e u' w'=>e=.returned (.tuple #[])/\u'=.returning/\w'=w:=by
 refine callsD_of_wpS Try.func88 rfl fun c₀ cs hu=>?_
 apply wpS_region
 simp [wpOpsS,go_sem,recoverD,hu,Try.ntmps88,bodyPostS,results,Try.results88]
 cases c₀
 simp_all
theorem ends_yes (fid:FuncId) (cap:Array Value) (w:World) (R:World->Prop) (hc:∀ w,(callFunc fid cap).run Try.prog w=.ok (.enter fid cap) w)
  (h:Calls Try.prog fid cap w fun e w'=>e=.returned (.tuple #[])/\R w') :
  Calls Try.prog 72 #[.func (.func fid) #[] cap] w fun e w'=>e=.returned (.bool true)/\R w':=by
 have H:=Lib.hid h
 clear h
 go_enter_defers Try.func72,Try.ntmps72
 go_wp2_with fail
 refine H.out.mono ?_
 rintro e w' ⟨rfl,he⟩
 go_wp2_with fail
 refine leaves_cons (f:=88) (args:=#[]) (by simp) (by simp [go_sem]) ?_
 refine (rec_idle _).mono ?_
 rintro e u' w'' ⟨rfl,rfl,rfl⟩
 simp [Leaves,settle,results,Try.results72,go_sem]
 exact he
end Go.Proofs.Ytcaclmdkhffegaa.lhp
end
end
section
/- Leases: package lease's Holds, Drop and Prune, told. -/
namespace Go.Proofs.Ytcaclmdkhffegaa.leb
open Go Go.RowKit eng SX Fact fil lem lea lho lhp lhd
set_option linter.unusedVariables false
set_option linter.unusedSimpArgs false
set_option maxRecDepth 1000000
def EDr (k:Nat):FnE:={ k:=k,ins:=[none,none,none],leaks:=[false,false,false],outs:=[none],kinds:=[.row] }
def EPr (k:Nat):FnE:={ k:=k,ins:=[none,none],leaks:=[false,false],outs:=[none],kinds:=[.row] }
def Zhr (l:List LeM) (now c f:Int):Int:=match l.find? (isL c f) with | some x=>if x.2.2.2<=now then 0 else x.2.2.1 | none=>0
@[simp] theorem holds_fxL (B:Base) (f:FuncId) (E:FnE) (pans:List Value) (es:List SX):(Fact.fx f E pans es).holds B ↔ ToldX f E pans (B.F E.k)/\∃ ps qs,evs B.s B.F es=some ps/\B.F E.k ps=some qs:=Iff.rfl
theorem Zdx {w:World} {l:Value} {xs:List LeM} (h:Reads w (pRow encL xs) l):RowE encL w l xs:=by
 simp only [pRow,Reads] at h
 obtain ⟨a,cap,rfl,h1,h2,h3⟩:=h
 refine ⟨a,cap,rfl,h1,h2,fun h0=>?_⟩
 rcases h3 with h3 | ⟨b,off,rfl,h3⟩
 ·have:=congrArg List.length h3
  rw [List.length_map,encL.all_length] at this
  have hs:encL.sz=4:=rfl
  simp [hs] at this
  omega
 ·have hc:∀ (i:Nat) (u:Value),(encL.all xs)[i]?=some u->w.cell? ⟨b,off+i,none⟩=some u:=fun i u hu=>by
   obtain ⟨v,hv,hr⟩:=Za8.at h3 (i:=i) (p:=.v u) (by simp [hu])
   simp only [Reads] at hr
   rw [hv,hr.1]
  obtain ⟨u,hu⟩:∃ u,(encL.all xs)[0]?=some u:=⟨_,List.getElem?_eq_getElem (by rw [encL.all_length];show 0 < xs.length * 4;omega)⟩
  exact ⟨b,off,rfl,World.block_lt_of_cell? _ _ (hc 0 u hu),hc⟩
theorem Zbe {w:World} {z:Int} {u:Value} (h:Reads w (pI z) u):u=.int .i64 z:=by
 simp only [Reads] at h;exact h.1
theorem Zg2 {w w' w2:World} {xs:List LeM} {v:Value} (hl:xs.length<=1000000) (h:w'.ownsRow w.heap.size 57 4 v xs.length (encL.all xs)) (hw:∀ k,(w.heap.size<=k/\k < w'.heap.size)->w2.heap[k]?=w'.heap[k]?):Reads w2 (pRow encL xs) v:=by
 rcases h.2 with ⟨rfl,h0⟩ | ⟨b,cap,cur,rfl,hb,hc,h1,h2,h3,h4⟩
 ·rw [List.eq_nil_of_length_eq_zero h0]
  simp only [pRow,Reads]
  exact ⟨none,0,rfl,Nat.le_refl _,Nat.zero_le _,.inl rfl⟩
 ·have hlt:b < w'.heap.size:=(Array.getElem?_eq_some_iff.1 hc).1
  simp only [pRow,Reads]
  refine ⟨_,_,rfl,h1,h2,.inr ⟨b,0,rfl,Za8.of fun j p hj=>?_⟩⟩
  rw [List.getElem?_map,Option.map_eq_some_iff] at hj
  obtain ⟨u,hu,rfl⟩:=hj
  refine ⟨u,?_,rfl,encL.all_one' xs u (List.mem_of_getElem? hu)⟩
  simp only [World.cell?,hw b ⟨hb,hlt⟩,hc,Nat.zero_add]
  rw [<- h4,List.getElem?_take] at hu
  split at hu
  ·simpa using hu
  ·cases hu
def dropL (l:List LeM) (c f:Int):List LeM:=l.filter fun x=>!(x.1 == c && x.2.1 == f)
def pruneL (l:List LeM) (t:Int):List LeM:=l.filter fun x=>!decide (x.2.2.2<=t)
def RDr (ps qs:List PV):Prop:=∃ (l:List LeM) (c f:Int),l.length<=1000000/\ps=[pRow encL l,pI c,pI f]/\qs=[pRow encL (dropL l c f)]
theorem fDr:∀ ps q1 q2,RDr ps q1->RDr ps q2->q1=q2:=by
 rintro ps q1 q2 ⟨l,c,f,_,rfl,rfl⟩ ⟨l',c',f',_,h,rfl⟩
 simp only [List.cons.injEq,PV.v.injEq,Value.int.injEq,true_and,and_true] at h
 obtain ⟨h,rfl,rfl⟩:=h
 rw [fil.pRow_inj Zar h]
theorem Zlw (k:Nat):ToldF 26 (EDr k) (spec RDr):=by
 intro w FP us ps qs hsp hul hpl hFP hrd
 obtain ⟨l,c,f,hl,rfl,rfl⟩:=Zal hsp
 obtain ⟨u0,u1,u2,rfl⟩:∃ u0 u1 u2,us=[u0,u1,u2]:=by
  match us,hul with
  | [a,b,c],_=>exact ⟨a,b,c,rfl⟩
 have r0:=Zdx (hrd 0 _ u0 rfl rfl).1
 obtain rfl:=Zbe (hrd 1 _ u1 rfl rfl).1
 obtain rfl:=Zbe (hrd 2 _ u2 rfl rfl).1
 refine (Zjs c f u0 l w r0 hl).mono ?_
 rintro e w' ⟨v,rfl,hown,hE⟩
 refine ⟨[v],fun _=>none,rfl,rfl,Zbk rfl,fun i q u hq hu w2 hw2=>?_,rfl,hE⟩
 match i,hq,hu with
 | 0,hq,hu =>
  simp at hq hu;subst hq;subst hu
  exact Zg2 (Nat.le_trans (List.length_filter_le _ _) hl) hown fun k hk=>hw2 k (.inr hk) (fun j _=>by simp)
 | i+1,hq,hu=>simp at hq
def RPr (ps qs:List PV):Prop:=∃ (l:List LeM) (t:Int),l.length<=1000000/\ps=[pRow encL l,pI t]/\qs=[pRow encL (pruneL l t)]
theorem fPr:∀ ps q1 q2,RPr ps q1->RPr ps q2->q1=q2:=by
 rintro ps q1 q2 ⟨l,c,_,rfl,rfl⟩ ⟨l',c',_,h,rfl⟩
 simp only [List.cons.injEq,PV.v.injEq,Value.int.injEq,true_and,and_true] at h
 obtain ⟨h,rfl⟩:=h
 rw [fil.pRow_inj Zar h]
theorem Zqv (k:Nat):ToldF 50 (EPr k) (spec RPr):=by
 intro w FP us ps qs hsp hul hpl hFP hrd
 obtain ⟨l,t,hl,rfl,rfl⟩:=Zal hsp
 obtain ⟨u0,u1,rfl⟩:∃ u0 u1,us=[u0,u1]:=by
  match us,hul with
  | [a,b],_=>exact ⟨a,b,rfl⟩
 have r0:=Zdx (hrd 0 _ u0 rfl rfl).1
 obtain rfl:=Zbe (hrd 1 _ u1 rfl rfl).1
 refine (prune_any t u0 l w r0 hl).mono ?_
 rintro e w' ⟨v,rfl,hown,hE⟩
 refine ⟨[v],fun _=>none,rfl,rfl,Zbk rfl,fun i q u hq hu w2 hw2=>?_,rfl,hE⟩
 match i,hq,hu with
 | 0,hq,hu =>
  simp at hq hu;subst hq;subst hu
  exact Zg2 (Nat.le_trans (List.length_filter_le _ _) hl) hown fun k hk=>hw2 k (.inr hk) (fun j _=>by simp)
 | i+1,hq,hu=>simp at hq
end Go.Proofs.Ytcaclmdkhffegaa.leb
end
end
section
/- lease.Grant, by hand: the place of a lease. -/
namespace Go.Proofs.Ytcaclmdkhffegaa.lgr
open Go Go.RowKit eng SX Fact fil lem lea lho lhp lhd leb ins dlf
set_option linter.unusedVariables false
set_option linter.unusedSimpArgs false
set_option maxRecDepth 100000

theorem Zcw (a b:LeM):ordL a b < 0 ↔ (a.2.1 < b.2.1 \/ (a.2.1=b.2.1/\a.1 < b.1)):=by
 unfold ordL cmpI
 split <;> rename_i h <;> (repeat' split at h) <;> (repeat' split) <;> omega
theorem Zng (a b:LeM):ordL a b=0 ↔ (a.2.1=b.2.1/\a.1=b.1):=by
 unfold ordL cmpI
 split <;> rename_i h <;> (repeat' split at h) <;> (repeat' split) <;> omega
theorem Zjg {l:List LeM} (h:MayL l):∀ (i j:Nat) (hi:i < j) (hj:j < l.length),ordL (l[i]'(by omega)) l[j] < 0:=by
 intro i j hi hj
 induction j with
 | zero=>omega
 | succ j ih =>
  have h1:=h.2.2 j hj
  by_cases he:i=j
  ·subst he;exact h1
  ·have h2:=ih (by omega) (by omega)
   rw [Zcw] at h1 h2 ⊢
   omega
theorem mustBe_ok (l:Value) (xs:List LeM) (w:World) (hr:RowE encL w l xs) (h:MayL xs):Calls Try.prog 89 #[l] w fun e w'=>e=.returned (.tuple #[])/\Ex w w':=by
 refine (toldMb 1 w (fun _=>False) [l] [pRow encL xs] [] (Zam fMb ⟨xs,h,rfl,rfl⟩) rfl rfl (fun k h=>h.elim) (fun i p u hp hu=>⟨?_,fun h=>by
  match i with
  | 0=>simp [EMust] at h
  | i+1=>simp [EMust] at h⟩)).mono ?_
 ·match i,hp,hu with
  | 0,hp,hu=>simp at hp hu;subst hp;subst hu;exact Zkc hr
  | i+1,hp,hu=>simp at hp
 ·rintro e W' ⟨us',ow,h1,_,_,_,rfl,hE⟩
  have:us'=[]:=List.eq_nil_of_length_eq_zero h1
  subst this
  exact ⟨rfl,hE⟩
theorem Zmi (w:World) (x:LeM):∀ (i:Nat) (p:PV) (u:Value),(p4 x)[i]?=some p->(encL.enc x)[i]?=some u->Reads w p u:=by
 intro i p u hp hu
 match i,hp,hu with
 | 0,hp,hu=>simp [p4,encL] at hp hu;subst hp;subst hu;simp only [Reads];exact ⟨trivial,rfl⟩
 | 1,hp,hu=>simp [p4,encL] at hp hu;subst hp;subst hu;simp only [Reads];exact ⟨trivial,rfl⟩
 | 2,hp,hu=>simp [p4,encL] at hp hu;subst hp;subst hu;simp only [Reads];exact ⟨trivial,rfl⟩
 | 3,hp,hu=>simp [p4,encL] at hp hu;subst hp;subst hu;simp only [Reads];exact ⟨trivial,rfl⟩
 | i+4,hp,hu=>simp [p4] at hp
theorem mustL_ok (x:LeM) (w:World) (h:okL x):Calls Try.prog 90 #[lv x] w fun e w'=>e=.returned (.tuple #[])/\Ex w w':=by
 refine (toldMl 1 w (fun _=>False) (encL.enc x) (p4 x) [] (Zam fMl ⟨x,h,rfl,rfl⟩) rfl rfl (fun k h=>h.elim) (fun i p u hp hu=>⟨Zmi w x i p u hp hu,fun h=>by
  match i with
  | 0=>simp [Zfn] at h
  | 1=>simp [Zfn] at h
  | 2=>simp [Zfn] at h
  | 3=>simp [Zfn] at h
  | i+4=>simp [Zfn] at h⟩)).mono ?_
 rintro e W' ⟨us',ow,h1,_,_,_,rfl,hE⟩
 have:us'=[]:=List.eq_nil_of_length_eq_zero h1
 subst this
 exact ⟨rfl,hE⟩
theorem order_any (a b:LeM) (w:World):Calls Try.prog 92 #[lv a,lv b] w fun e w'=>e=.returned (.int .i64 (ordL a b))/\Ex w w':=by
 have A:∀ (W:World) (i:Nat) (p:PV) (u:Value),(p4 a++p4 b)[i]?=some p->(encL.enc a++encL.enc b)[i]?=some u->Reads W p u:=fun W i p u hp hu=>by
  rcases Nat.lt_or_ge i 4 with h4 | h4
  ·rw [List.getElem?_append_left (by exact h4)] at hp hu
   exact Zmi W a i p u hp hu
  ·rw [List.getElem?_append_right (by exact h4)] at hp hu
   exact Zmi W b _ p u hp hu
 refine (toldOrd 1 w (fun _=>False) (encL.enc a++encL.enc b) (p4 a++p4 b) [pI (ordL a b)] (Zam fOrd ⟨a,b,rfl,rfl⟩) rfl rfl (fun k h=>h.elim) (fun i p u hp hu=>⟨A w i p u hp hu,fun _ w2 _=>A w2 i p u hp hu⟩)).mono ?_
 ·rintro e W' ⟨us',ow,h1,_,_,hrd,rfl,hE⟩
  obtain ⟨u,rfl⟩:∃ u,us'=[u]:=List.length_eq_one_iff.1 h1
  have:=hrd 0 (pI (ordL a b)) u rfl rfl W' (fun _ _ _=>rfl)
  simp only [Reads] at this
  rw [this.1]
  exact ⟨rfl,hE⟩
def Place (xs:List LeM) (x:LeM) (i:Nat) (there:Bool):Prop:=i<=xs.length/\(∀ (j:Nat) (h:j < xs.length),j < i->ordL xs[j] x < 0)/\(∀ (j:Nat) (h:j < xs.length),i<=j->0<=ordL xs[j] x)/\(there=true ↔ ∃ h:i < xs.length,ordL xs[i] x=0)
set_option maxHeartbeats 4000000 in
theorem search_any (l:Value) (xs:List LeM) (x:LeM) (w:World) (hr:RowE encL w l xs) (hm:MayL xs) :
  Calls Try.prog 91 #[l,lv x,.func (.func 92) #[] #[]] w fun e w'=>∃ i there,e=.returned (.tuple #[.int .i64 ((i:Nat):Int),.bool there])/\Ex w w'/\Place xs x i there:=by
 obtain ⟨a,cap,rfl,h1,h2⟩:=hr.len
 have hl:=hm.1
 have HR:=Lib.hid hr
 have HM:=Lib.hid hm
 have g0:=Ex.mk_alloc w (.cells #[.int .i64 x.1,.int .i64 x.2.1,.int .i64 x.2.2.1,.int .i64 x.2.2.2] 57)
 have G0:=Lib.hid g0
 have mixed:Try.prog.follows .mixedOrders=true:=by kernel_rfl
 obtain ⟨x0,x1,x2,x3⟩:=x
 simp only [lv] at *
 generalize hn:xs.length=n at *
 have HN:=Lib.hid hn
 clear hr hm g0 hn
 go_enter Try.func91,Try.ntmps91
 go_wp2_with fail
 go_loopw [9,10] (fun s9 s10 wr=>∃ i j:Nat,s9=.int .i64 i/\s10=.int .i64 j/\i<=j/\j<=n/\Ex (w.alloc (.cells #[.int .i64 x0,.int .i64 x1,.int .i64 x2,.int .i64 x3] 57)) wr/\Hid ((∀ (k:Nat) (h:k < xs.length),k < i->ordL xs[k] (x0,x1,x2,x3) < 0)/\(∀ (k:Nat) (h:k < xs.length),j<=k->0<=ordL xs[k] (x0,x1,x2,x3)))) (fun i j _=>(intOf j).toNat - (intOf i).toNat)
 case atStart=>exact ⟨0,n,rfl,rfl,by omega,by omega,Ex.refl _,Lib.hid ⟨fun k _ h=>absurd h (by omega),fun k h hk=>by have:=HN.out;omega⟩⟩
 case round =>
  obtain ⟨i,j,rfl,rfl,hij,hjn,gk,HA⟩:=hrel
  by_cases hlt:i < j
  ·have hltz:(i:Int) < (j:Int):=by omega
   obtain ⟨k,hk⟩:∃ k:Nat,((i:Int)+(j:Int)) / 2=(k:Int):=⟨(i+j) / 2,by omega⟩
   have hki:i<=k:=by omega
   have hkj:k < j:=by omega
   have hkn:k < xs.length:=by have:=HN.out;omega
   obtain ⟨b,off,rfl,hbw⟩:=HR.out.addr (by omega)
   have gw:=Ex.trans G0.out gk
   obtain ⟨y,hy⟩:∃ y,xs[k]?=some y:=⟨_,List.getElem?_eq_getElem hkn⟩
   have e0:=(HR.out.ex gw).at (j:=0) hy rfl
   have e1:=(HR.out.ex gw).at (j:=1) hy rfl
   have e2:=(HR.out.ex gw).at (j:=2) hy rfl
   have e3:=(HR.out.ex gw).at (j:=3) hy rfl
   simp only [encL,Nat.add_zero,Nat.zero_add,<- Nat.add_assoc] at e0 e1 e2 e3
   obtain ⟨d0,d1,d2,d3⟩:=box4 gk
   have HY:=Lib.hid hy
   clear hy gw
   obtain ⟨y0,y1,y2,y3⟩:=y
   simp only at e0 e1 e2 e3
   have OA:=Lib.hid (show ∀ W,Calls Try.prog 92 #[.agg #[.int .i64 y0,.int .i64 y1,.int .i64 y2,.int .i64 y3],.agg #[.int .i64 x0,.int .i64 x1,.int .i64 x2,.int .i64 x3]] W fun e w'=>e=.returned (.int .i64 (ordL (y0,y1,y2,y3) (x0,x1,x2,x3)))/\Ex W w' from fun W=>order_any (y0,y1,y2,y3) (x0,x1,x2,x3) W)
   obtain ⟨z,hz⟩:∃ z,ordL (y0,y1,y2,y3) (x0,x1,x2,x3)=z:=⟨_,rfl⟩
   rw [hz] at OA
   have HZ:=Lib.hid hz
   have hk0:(0:Int)<=(k:Int):=by omega
   have hk1:(k:Int) < (n:Int):=by omega
   clear hz
   go_wp2_with fail
   refine Zdu (by kernel_rfl) (by kernel_rfl) ?_
   repeat (go_big_quiet_step (first | (go_at_call 92;exact after_of (OA.out _))))
   refine wpQuiet_nil ?_
   intro w' hw'
   replace hw':=Zhb hw'
   have gk2:=Ex.trans gk hw'
   clear hw'
   have hyk:xs[k]=(y0,y1,y2,y3):=by
    have:=HY.out
    rw [List.getElem?_eq_getElem hkn] at this
    exact Option.some.inj this
   by_cases hzz:z < 0
   ·go_wp2_with fail
    go_roundw
    case rel =>
     refine ⟨k+1,j,by go_num,rfl,by omega,by omega,gk2,Lib.hid ⟨fun m hm hmk=>?_,HA.out.2⟩⟩
     by_cases he:m=k
     ·subst he;rw [hyk,HZ.out];exact hzz
     ·have q1:=Zjg HM.out m k (by omega) hkn
      have q2:=HZ.out
      rw [<- hyk] at q2
      rw [<- q2] at hzz
      rw [Zcw] at q1 hzz ⊢
      omega
    case measure=>simp [intOf];omega
   ·go_wp2_with fail
    go_roundw
    case rel =>
     refine ⟨i,k,rfl,by first | rfl | go_num,by omega,by omega,gk2,Lib.hid ⟨HA.out.1,fun m hm hmk=>?_⟩⟩
     by_cases he:m=k
     ·subst he;rw [hyk,HZ.out];omega
     ·have q1:=Zjg HM.out k m (by omega) hm
      have q2:=HZ.out
      rw [<- hyk] at q2
      rw [<- q2,Zcw] at hzz
      rw [Zcw] at q1
      have:=Zcw xs[m] (x0,x1,x2,x3)
      omega
    case measure=>simp [intOf];omega
  ·obtain rfl:i=j:=by omega
   have hltz:¬ (i:Int) < (i:Int):=by omega
   by_cases hin:i < n
   ·have hin':(i:Int) < (n:Int):=by omega
    have hkn:i < xs.length:=by have:=HN.out;omega
    obtain ⟨b,off,rfl,hbw⟩:=HR.out.addr (by omega)
    have gw:=Ex.trans G0.out gk
    obtain ⟨y,hy⟩:∃ y,xs[i]?=some y:=⟨_,List.getElem?_eq_getElem hkn⟩
    have e0:=(HR.out.ex gw).at (j:=0) hy rfl
    have e1:=(HR.out.ex gw).at (j:=1) hy rfl
    have e2:=(HR.out.ex gw).at (j:=2) hy rfl
    have e3:=(HR.out.ex gw).at (j:=3) hy rfl
    simp only [encL,Nat.add_zero,Nat.zero_add,<- Nat.add_assoc] at e0 e1 e2 e3
    obtain ⟨d0,d1,d2,d3⟩:=box4 gk
    have HY:=Lib.hid hy
    have GW:=Lib.hid gw
    clear hy gw
    obtain ⟨y0,y1,y2,y3⟩:=y
    simp only at e0 e1 e2 e3
    have OA:=Lib.hid (show ∀ W,Calls Try.prog 92 #[.agg #[.int .i64 y0,.int .i64 y1,.int .i64 y2,.int .i64 y3],.agg #[.int .i64 x0,.int .i64 x1,.int .i64 x2,.int .i64 x3]] W fun e w'=>e=.returned (.int .i64 (ordL (y0,y1,y2,y3) (x0,x1,x2,x3)))/\Ex W w' from fun W=>order_any (y0,y1,y2,y3) (x0,x1,x2,x3) W)
    obtain ⟨z,hz⟩:∃ z,ordL (y0,y1,y2,y3) (x0,x1,x2,x3)=z:=⟨_,rfl⟩
    rw [hz] at OA
    have HZ:=Lib.hid hz
    have hyk:Hid (xs[i]=(y0,y1,y2,y3)):=Lib.hid (by
     have:=HY.out
     rw [List.getElem?_eq_getElem hkn] at this
     exact Option.some.inj this)
    clear hz
    go_wp2_with fail
    refine Zdu (by kernel_rfl) (by kernel_rfl) ?_
    repeat (go_big_quiet_step (first | (go_at_call 92;exact after_of (OA.out _))))
    refine wpQuiet_nil ?_
    intro w' hw'
    replace hw':=Zhb hw'
    have gk2:=Ex.trans gk hw'
    clear hw'
    go_wp2_with fail
    go_ret2
    refine ⟨i,z == 0,rfl,Ex.trans G0.out gk2,by omega,fun m hm hmi=>HA.out.1 m hm hmi,fun m hm hmi=>HA.out.2 m hm hmi,?_⟩
    rw [beq_iff_eq]
    constructor
    ·intro h;exact ⟨hkn,by rw [hyk.out,HZ.out];exact h⟩
    ·rintro ⟨_,h⟩;rw [hyk.out,HZ.out] at h;exact h
   ·have hin':¬ (i:Int) < (n:Int):=by omega
    go_wp2_with fail
    refine Zdu (by kernel_rfl) (by kernel_rfl) ?_
    repeat (go_big_quiet_step (fail))
    refine wpQuiet_nil ?_
    intro w' hw'
    replace hw':=Zhb hw'
    have gk2:=Ex.trans gk hw'
    clear hw'
    go_wp2_with fail
    go_ret2
    refine ⟨i,false,rfl,Ex.trans G0.out gk2,by have:=HN.out;omega,fun m hm hmi=>HA.out.1 m hm hmi,fun m hm hmi=>HA.out.2 m hm hmi,?_⟩
    constructor
    ·intro h;cases h
    ·rintro ⟨h,_⟩;have:=HN.out;omega
end Go.Proofs.Ytcaclmdkhffegaa.lgr
end
