/- Package line's behind, and with where its client does not wait for that file yet, by hand. -/
import Derived.Test.YtcaclmdkhffegaaWdr
namespace Go.Proofs.Ytcaclmdkhffegaa.wwi
set_option maxRecDepth 100000
set_option linter.unusedVariables false
set_option linter.unusedSimpArgs false
open Go.RowKit ins lem dlf wdr wlm

theorem own_slice {W:World} {base:Nat} {e:TypeId} {v:Value} {n:Nat} {xs:List Value} (h:W.ownsRow base e 4 v n xs):∃ ad c,v=.slice ad n c:=by
 rcases h.2 with ⟨rfl,rfl⟩ | ⟨_,_,_,rfl,_⟩
 ·exact ⟨_,_,rfl⟩
 ·exact ⟨_,_,rfl⟩
set_option maxHeartbeats 2000000 in
theorem behind_any (x:LeM) (base n:Nat) (v:Value) (ys:List LeM) (w:World) (hown:w.ownsRow base 25 4 v n (encL.all ys)) (hn:n < 4) (hbase:base<=w.heap.size) :
  Calls Try.prog 97 #[v,lv x] w fun e w'=>∃ v',e=.returned v'/\w'.ownsRow base 25 4 v' (n+1) (encL.all (ys++[x]))/\Below base w w':=by
 obtain ⟨i0,hi,hz0,hz1,hz2⟩:=info_parts dlw.info_el
 have g0:=Ex.mk_alloc w (.cells #[.int .i64 x.1,.int .i64 x.2.1,.int .i64 x.2.2.1,.int .i64 x.2.2.2] 25)
 have g1:=Ex.mk_alloc (w.alloc (.cells #[.int .i64 x.1,.int .i64 x.2.1,.int .i64 x.2.2.1,.int .i64 x.2.2.2] 25)) (.cells #[.int .i64 x.1,.int .i64 x.2.1,.int .i64 x.2.2.1,.int .i64 x.2.2.2] 25)
 have hv:RowE encL ((w.alloc (.cells #[.int .i64 x.1,.int .i64 x.2.1,.int .i64 x.2.2.1,.int .i64 x.2.2.2] 25)).alloc (.cells #[.int .i64 x.1,.int .i64 x.2.1,.int .i64 x.2.2.1,.int .i64 x.2.2.2] 25)) (.slice (some ⟨w.heap.size+1,0,none⟩) 1 1) [x]:=RowE.lit_at encL _ [x] _ 1 _ (by rw [World.size_alloc]) rfl (by unfold maxLen;omega) _ rfl
 obtain ⟨ad,c,rfl⟩:=own_slice hown
 have hfar:∀ k,(Value.slice ad n c).ownBlock=some k->base<=k:=fun k hk=>(hown.lt k hk).1
 obtain ⟨v',w',hrun,h1,h2,h3⟩:=Zbz (P:=Try.prog) _ encL base 28 28 25 i0 _ 4 32 Try.underlying28 hi hz0 hz1 hz2 rfl rfl _ n (encL.all ys) (Zdt hown (Ex.trans g0 g1)) _ [x] hv (by unfold maxLen;simp;omega) (by simp;omega) (by simp only [World.size_alloc];omega)
 have hfin:w'.ownsRow base 25 4 v' (n+1) (encL.all (ys++[x]))/\Below base w w':=by
  refine ⟨by rw [encL.all_append];exact h1,?_⟩
  exact Below.grown (Below.mono (Ex.trans g0 g1) hbase) h2 (by simp only [World.size_alloc];omega) hfar
 have HF:=Lib.hid hfin
 have HR:=Lib.hid hrun
 have hnz:¬ (4:Int)<=(n:Int):=by omega
 clear hrun h1 h2 h3 hv hown g0 g1 hfar hfin
 obtain ⟨x0,x1,x2,x3⟩:=x
 simp only [lv] at *
 go_enter Try.func97,Try.ntmps97
 go_wp2_with (at_builtin;refine Lib.wpList_append_run _ rfl _ _ _ _ rfl _ _ rfl rfl _ _ HR.out ?_)
 go_ret
 exact ⟨_,rfl,HF.out⟩
set_option maxHeartbeats 4000000 in
theorem with_out (x:LeM) (l:Value) (xs:List LeM) (w:World) (hr:RowE encL w l xs) (hn6:xs.length<=1000000) (hi:idx (isW x.1 x.2.2.1) xs=-1) (hl:(dropW xs x.1).length < 4) :
  Calls Try.prog 79 #[l,lv x] w (OwnsW w (dropW xs x.1++[x])):=by
 obtain ⟨a,cap,rfl,_⟩:=hr.len
 have g0:=Ex.mk_alloc w (.cells #[.int .i64 x.1,.int .i64 x.2.1,.int .i64 x.2.2.1,.int .i64 x.2.2.2] 25)
 have HI:=Lib.hid (index_with x.1 x.2.2.1 w.heap.size _ xs _ (hr.ex g0) hn6 (Zcd (Ex.refl _) 0 _ rfl) (Zcd (Ex.refl _) 2 _ rfl))
 have HD:=Lib.hid fun W (h:Ex w W)=>Zhd x.1 _ xs W (hr.ex h) hn6
 have HB:=Lib.hid fun W base v (h:W.ownsRow base 25 4 v (dropW xs x.1).length (encL.all (dropW xs x.1))) (hb:base<=W.heap.size)=>behind_any x base _ v _ W h hl hb
 have mixed:Try.prog.follows .mixedOrders=true:=by kernel_rfl
 rw [hi] at HI
 clear hr hi hl hn6
 obtain ⟨x0,x1,x2,x3⟩:=x
 simp only [lv,dropW] at *
 generalize (xs.filter fun x=>!(x.1 == x0))=ys at *
 go_enter Try.func79,Try.ntmps79
 go_wp2_with (go_at_call 94;refine HI.out.mono ?_;rintro e w1 ⟨rfl,g1⟩)
 obtain ⟨k0,k1,k2,k3⟩:=box4 g1
 have G1:=Lib.hid (Ex.trans g0 g1)
 clear g0 g1
 go_region_with (first
  | (go_at_call 56;refine (HD.out _ (by first | exact G1.out | exact Ex.dr G1.out)).mono ?_;rintro e w2 ⟨v,rfl,ho,g2⟩;obtain ⟨ad,c,rfl⟩:=own_slice ho;obtain ⟨m0,m1,m2,m3⟩:=(⟨g2.on k0,g2.on k1,g2.on k2,g2.on k3⟩:_/\_/\_/\_);have HO:=Lib.hid ho;have G2:=Lib.hid g2;clear ho g2)
  | (go_at_call 97;refine (HB.out _ _ _ HO.out (by exact G2.out.size)).mono ?_;rintro e w3 ⟨v',rfl,h3,b3⟩;have H3:=Lib.hid h3;have B3:=Lib.hid b3;clear h3 b3))
 all_goals
  go_wp2_with fail
  go_ret
  have hs:=G1.out.size
  refine ⟨_,rfl,?_,Below.trans (Ex.dr G1.out) (Below.trans (Below.mono G2.out (by simpa using hs)) (Below.mono B3.out (by simpa using hs)))⟩
  rw [List.length_append]
  exact Zd2 H3.out (by simpa using hs)
end Go.Proofs.Ytcaclmdkhffegaa.wwi
