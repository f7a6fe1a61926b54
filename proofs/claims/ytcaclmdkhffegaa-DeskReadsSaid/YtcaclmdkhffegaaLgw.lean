/- lease.Grant, by hand: with. -/
import Derived.Test.YtcaclmdkhffegaaLgr
namespace Go.Proofs.Ytcaclmdkhffegaa.lgw
open Go Go.RowKit eng SX Fact fil lem lea lho lhp lhd leb ins dlf lgr
set_option linter.unusedVariables false
set_option linter.unusedSimpArgs false
set_option maxRecDepth 100000

def Zg3 (y x:LeM):LeM:=(y.1,y.2.1,max y.2.2.1 x.2.2.1,max y.2.2.2 x.2.2.2)
def Zcj (xs:List LeM) (x:LeM):Nat:=xs.findIdx fun y=>decide (0<=ordL y x)
def Zbb (xs:List LeM) (x:LeM):List LeM:=match xs[Zcj xs x]? with
 | some y=>if ordL y x=0 then xs.set (Zcj xs x) (Zg3 y x) else xs.take (Zcj xs x)++x :: xs.drop (Zcj xs x)
 | none=>xs++[x]
theorem place_eq {xs:List LeM} {x:LeM} {i:Nat} {t:Bool} (h:lgr.Place xs x i t):i=Zcj xs x:=by
 obtain ⟨h1,h2,h3,_⟩:=h
 unfold Zcj
 rcases Nat.lt_or_ge i xs.length with hi | hi
 ·symm
  rw [List.findIdx_eq hi]
  exact ⟨by simpa using h3 i hi (Nat.le_refl _),fun j hj=>by simpa using h2 j (by omega) hj⟩
 ·have:i=xs.length:=by omega
  subst this
  symm
  rw [List.findIdx_eq_length]
  intro y hy
  obtain ⟨j,hj,rfl⟩:=List.getElem_of_mem hy
  simpa using h2 j hj hj
theorem Zd5 {xs:List LeM} {x:LeM} {i:Nat} (h:lgr.Place xs x i true):∃ (hi:i < xs.length),Zbb xs x=xs.set i (Zg3 xs[i] x):=by
 obtain ⟨hi,h0⟩:=h.2.2.2.1 rfl
 have he:=place_eq h
 refine ⟨hi,?_⟩
 unfold Zbb
 rw [<- he,List.getElem?_eq_getElem hi]
 simp only [h0,if_true]
theorem Zf1 {xs:List LeM} {x:LeM} {i:Nat} (h:lgr.Place xs x i false):Zbb xs x=xs.take i++[x]++xs.drop i:=by
 have he:=place_eq h
 unfold Zbb
 rw [<- he]
 rcases Nat.lt_or_ge i xs.length with hi | hi
 ·rw [List.getElem?_eq_getElem hi]
  have:¬ ordL xs[i] x=0:=fun h0=>by have:=h.2.2.2.2 ⟨hi,h0⟩;cases this
  simp [this]
 ·have:i=xs.length:=by have:=h.1;omega
  subst this
  simp
theorem set2 (dk:List LeM) (i:Nat) (h:i < dk.length) (m u:Int):((encL.all dk).set (i * 4+2) (.int .i64 m)).set (i * 4+3) (.int .i64 u)=encL.all (dk.set i (dk[i].1,dk[i].2.1,m,u)):=by
 rw [<- set4 dk i _ h]
 have h0:(encL.all dk)[i * 4]?=some (.int .i64 dk[i].1):=by
  have:=encL.all_get dk i 0 dk[i] (List.getElem?_eq_getElem h) (by decide)
  simpa [encL] using this
 have h1:(encL.all dk)[i * 4+1]?=some (.int .i64 dk[i].2.1):=by
  have:=encL.all_get dk i 1 dk[i] (List.getElem?_eq_getElem h) (by decide)
  simpa [encL] using this
 have e0:(encL.all dk).set (i * 4) (.int .i64 dk[i].1)=encL.all dk:=by
  obtain ⟨hl,hv⟩:=List.getElem?_eq_some_iff.1 h0
  rw [<- hv];exact List.set_getElem_self hl
 have e1:(encL.all dk).set (i * 4+1) (.int .i64 dk[i].2.1)=encL.all dk:=by
  obtain ⟨hl,hv⟩:=List.getElem?_eq_some_iff.1 h1
  rw [<- hv];exact List.set_getElem_self hl
 simp only [e0,e1]
theorem stored2 {W:World} {base b n cap:Nat} {e:TypeId} {dk:List LeM} (h:W.ownsRow base e 4 (.slice (some ⟨b,0,none⟩) n cap) n (encL.all dk)) (i:Nat) (hi:i < dk.length) (m u:Int) :
  ((W.setCell ⟨b,i * 4+2,none⟩ (.int .i64 m)).setCell ⟨b,i * 4+3,none⟩ (.int .i64 u)).ownsRow base e 4 (.slice (some ⟨b,0,none⟩) n cap) n (encL.all (dk.set i (dk[i].1,dk[i].2.1,m,u))) ∧
  W.grownBy ((W.setCell ⟨b,i * 4+2,none⟩ (.int .i64 m)).setCell ⟨b,i * 4+3,none⟩ (.int .i64 u)) (some b):=by
 obtain ⟨h1,g1⟩:=h.stored (i * 4+2) (.int .i64 m)
 obtain ⟨h2,g2⟩:=h1.stored (i * 4+3) (.int .i64 u)
 rw [set2 dk i hi] at h2
 exact ⟨h2,g1.trans g2⟩
def Gives (w:World) (base b:Nat) (ys:List LeM) (e:Ending) (w':World):Prop:=∃ v,e=.returned v/\w'.ownsRow base 57 4 v ys.length (encL.all ys)/\w.grownBy w' (some b)/\∀ k,v.ownBlock=some k->k=b \/ w.heap.size<=k
set_option maxHeartbeats 4000000 in
theorem with_any (x:LeM) (base b n cap:Nat) (xs:List LeM) (w:World) (hown:w.ownsRow base 57 4 (.slice (some ⟨b,0,none⟩) n cap) n (encL.all xs)) (hbase:base<=w.heap.size) (hm:MayL xs) (hx:okL x) (hn6:n < 1000000) :
  Calls Try.prog 74 #[.slice (some ⟨b,0,none⟩) n cap,lv x] w (Gives w base b (Zbb xs x)):=by
 obtain ⟨hrow,hn⟩:=RowE.of_own (E:=encL) hown
 have hbw:b < w.heap.size:=(hown.lt b rfl).2
 have g0:=Ex.mk_alloc w (.cells #[.int .i64 x.1,.int .i64 x.2.1,.int .i64 x.2.2.1,.int .i64 x.2.2.2] 57)
 have HM:=Lib.hid (fun (W:World) (g:Ex w W)=>mustBe_ok (.slice (some ⟨b,0,none⟩) n cap) xs W (hrow.ex g) hm)
 have HL:=Lib.hid (fun (W:World)=>mustL_ok x W hx)
 have HB:=Lib.hid (fun (W:World) (g:Ex w W)=>search_any (.slice (some ⟨b,0,none⟩) n cap) xs x W (hrow.ex g) hm)
 have HO:=Lib.hid hown
 have HN:=Lib.hid hn
 have HX:=Lib.hid (rfl:x=x)
 have mixed:Try.prog.follows .mixedOrders=true:=by kernel_rfl
 clear hown hrow hm hx hn
 obtain ⟨x0,x1,x2,x3⟩:=x
 simp only [lv] at *
 go_enter Try.func74,Try.ntmps74
 go_wp2_with (first
  | (go_at_call 89;refine (HM.out _ g0).mono ?_;rintro e w1 ⟨rfl,g1⟩;obtain ⟨k0,k1,k2,k3⟩:=box4 g1)
  | (go_at_call 90;refine (HL.out _).mono ?_;rintro e w2 ⟨rfl,g2⟩;obtain ⟨l0,l1,l2,l3⟩:=box4 (Ex.trans g1 g2)))
 have g12:=Ex.trans g1 g2
 refine (HB.out _ (Ex.trans g0 g12)).mono ?_
 rintro e w3 ⟨i,there,rfl,g3,hP⟩
 have g123:=Ex.trans g12 g3
 obtain ⟨m0,m1,m2,m3⟩:=box4 g123
 have gw:=Ex.trans g0 g123
 have GW:=Lib.hid gw
 have hown3:=Zdt HO.out gw
 have hsz3:=gw.size
 have HP:=Lib.hid hP
 have hin:=hP.1
 have hn:=HN.out
 rw [hn] at hin
 clear hP k0 k1 k2 k3 l0 l1 l2 l3 g1 g2 g12 g3 g123 gw g0 hn
 cases there with
 | true =>
  obtain ⟨hi,hg⟩:=Zd5 HP.out
  obtain ⟨hrow,_⟩:=RowE.of_own (E:=encL) hown3
  have hy:=List.getElem?_eq_getElem hi
  have c2:=hrow.at (j:=2) hy rfl
  have c3:=hrow.at (j:=3) hy rfl
  simp only [encL,Nat.add_zero,Nat.zero_add] at c2 c3
  have f2:=hown3.frozenAt (i * 4+2)
  have f3:=hown3.frozenAt (i * 4+3)
  have HW:=Lib.hid (stored2 hown3 i hi (max xs[i].2.2.1 x2) (max xs[i].2.2.2 x3))
  have hin':i < n:=by have:=HN.out;omega
  have i0':(0:Int)<=(i:Int):=by omega
  have i1':(i:Int) < (n:Int):=by omega
  obtain ⟨y,hyy⟩:∃ y,xs[i]=y:=⟨_,rfl⟩
  have HY:=Lib.hid hyy
  rw [hyy] at c2 c3 HW hg
  have HG:=Lib.hid hg
  have hne:b ≠ w.heap.size:=by omega
  clear hyy hy hrow hown3 hg
  obtain ⟨y0,y1,y2,y3⟩:=y
  simp only at c2 c3 HW
  go_wp2_with fail
  go_region
  go_wp2_with fail
  go_ret
  obtain ⟨q1,q2⟩:=HW.out
  rw [HG.out]
  refine ⟨_,rfl,?_,?_,fun k hk=>by cases hk;exact .inl rfl⟩
  ·rw [List.length_set,HN.out]
   exact q1.drew
  ·exact (Zbe GW.out (some b)).trans (q2.trans ⟨rfl,rfl,rfl,Nat.le_refl _,fun _ _ _=>rfl⟩)
 | false =>
  have hg:=Zf1 HP.out
  have gA:=Ex.mk_alloc w3 (.cells #[.int .i64 x0,.int .i64 x1,.int .i64 x2,.int .i64 x3] 57)
  have hown4:=Zdt hown3 gA
  have hv:RowE encL (w3.alloc (.cells #[.int .i64 x0,.int .i64 x1,.int .i64 x2,.int .i64 x3] 57)) (.slice (some ⟨w3.heap.size,0,none⟩) 1 1) [(x0,x1,x2,x3)]:=RowE.lit encL w3 [(x0,x1,x2,x3)] _ 1 rfl (by unfold maxLen;omega) _ rfl
  have hI:=insert_any encL rfl _ base b n cap i (encL.all xs) hown4 (by rw [World.size_alloc];omega) (encL.all_one' xs) w3.heap.size 0 1 1 [(x0,x1,x2,x3)] rfl (by omega) (by omega) hv (by omega) hin
  have HI:=Lib.hid hI
  have GA:=Lib.hid gA
  have HG:=Lib.hid hg
  clear hI gA hg hv hown4 hown3
  go_wp2_with (go_at_call 93;refine HI.out.mono ?_;rintro e w5 ⟨v,rfl,h5,g5,o5⟩;have H5:=Lib.hid h5;have G5:=Lib.hid g5;have O5:=Lib.hid o5;clear h5 g5 o5)
  go_ret
  have hsplit:encL.all xs=encL.all (xs.take i)++encL.all (xs.drop i):=by rw [<- encL.all_append,List.take_append_drop]
  have hlt:(encL.all (xs.take i)).length=i * 4:=by rw [encL.all_length,List.length_take,HN.out,Nat.min_eq_left hin];rfl
  have hT:(encL.all xs).take (i * 4)=encL.all (xs.take i):=by rw [hsplit,<- hlt,List.take_left' rfl]
  have hD:(encL.all xs).drop (i * 4)=encL.all (xs.drop i):=by rw [hsplit,<- hlt,List.drop_left' rfl]
  refine ⟨v,rfl,?_,(Zbe (Ex.trans GW.out GA.out) (some b)).trans G5.out,fun k hk=>by
   rcases O5.out with h | h
   ·rw [h] at hk;cases hk;exact .inl rfl
   ·rw [h,World.size_alloc] at hk;cases hk;right;omega⟩
  rw [HG.out,encL.all_append,encL.all_append,<- hT,<- hD]
  have hl:(xs.take i++[(x0,x1,x2,x3)]++xs.drop i).length=n+1:=by
   simp only [List.length_append,List.length_take,List.length_drop,List.length_cons,List.length_nil,HN.out]
   omega
  rw [hl]
  exact H5.out
end Go.Proofs.Ytcaclmdkhffegaa.lgw
