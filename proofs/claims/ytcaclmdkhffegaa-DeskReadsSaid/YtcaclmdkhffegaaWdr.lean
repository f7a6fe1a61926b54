/- Package line's Drop, and with's closure, by hand. -/
import Derived.Test.YtcaclmdkhffegaaDlw
import Derived.Test.YtcaclmdkhffegaaCaw
import Derived.Test.YtcaclmdkhffegaaWlm
namespace Go.Proofs.Ytcaclmdkhffegaa.wdr
set_option maxRecDepth 100000
set_option linter.unusedVariables false
set_option linter.unusedSimpArgs false
open Go.RowKit ins lem dlf wlm

theorem Zf0 (c:Nat) (fv:Value) (w:World) (a:Option Addr):Calls Try.prog 94 #[.slice a 0 c,fv] w fun e w'=>e=.returned (.int .i64 (-1))/\w=w':=by
 go_enter Try.func94,Try.ntmps94
 go_wp2_with fail
 go_loopw [5,8] (fun _ s8 wr=>s8=.int .i64 0/\w=wr) (fun _ i _=>0)
 case atStart=>exact ⟨rfl,rfl⟩
 case round =>
  obtain ⟨rfl,rfl⟩:=hrel
  go_wp2_with fail
  go_ret
  exact ⟨rfl,rfl⟩
theorem Zgl (fv:Value) (w:World):Calls Try.prog 75 #[.slice none 0 0,fv] w fun e w'=>e=.returned (.slice none 0 0)/\w=w':=by
 have hI:=Zf0 0 fv w none
 go_enter Try.func75,Try.ntmps75
 go_wp2_with (go_at_call 94;refine hI.mono ?_;rintro e w' ⟨rfl,rfl⟩)
 go_ret
 exact ⟨rfl,rfl⟩
def OwnsW (w:World) (xs:List LeM) (e:Ending) (w':World):Prop:=∃ v,e=.returned v/\w'.ownsRow w.heap.size 25 4 v xs.length (encL.all xs)/\Ex w w'
theorem Zf4 {w w1 W:World} {o:Obj} {b:Nat} (g1:Ex (w.alloc o) w1) (hb:(w.alloc o).heap.size<=b) (hW:w1.grownBy W (some b)):Ex w W:=by
 have h:=Ex.trans (Ex.mk_alloc w o) g1
 have h2:=g1.size
 simp only [World.size_alloc] at hb h2
 exact Below.grown h hW h.size (fun k hk=>by cases hk;omega)
theorem Zkf (c:Int) (x:LeM) (a:Nat) (W:World) (h1:W.cell? ⟨a,0,none⟩=some (.int .i64 c)) :
  Calls Try.prog 76 (#[lv x]++#[.pointer (some ⟨a,0,none⟩)]) W fun e W'=>e=.returned (.bool (x.1 == c))/\Ex W W':=by
 have ha:a < W.heap.size:=World.block_lt_of_cell? _ _ h1
 have hw:=Ex.mk_alloc W (.cells #[.int .i64 x.1,.int .i64 x.2.1,.int .i64 x.2.2.1,.int .i64 x.2.2.2] 25)
 have k1:=hw.on h1
 have K:=Lib.hid hw
 clear hw h1
 obtain ⟨x0,x1,x2,x3⟩:=x
 simp only [lv] at *
 go_enter Try.func76,Try.ntmps76
 go_wp2_with fail
 all_goals (go_ret;refine ⟨?_,K.out⟩;simp_all)
theorem asked (c f:Int) (x:LeM) (a:Nat) (W:World) (h1:W.cell? ⟨a,0,none⟩=some (.int .i64 c)) (h2:W.cell? ⟨a,2,none⟩=some (.int .i64 f)) :
  Calls Try.prog 96 (#[lv x]++#[.pointer (some ⟨a,0,none⟩)]) W fun e W'=>e=.returned (.bool (isW c f x))/\Ex W W':=by
 have ha:a < W.heap.size:=World.block_lt_of_cell? _ _ h1
 have hw:=Ex.mk_alloc W (.cells #[.int .i64 x.1,.int .i64 x.2.1,.int .i64 x.2.2.1,.int .i64 x.2.2.2] 25)
 have k1:=hw.on h1
 have k2:=hw.on h2
 have K:=Lib.hid hw
 clear hw h1 h2
 obtain ⟨x0,x1,x2,x3⟩:=x
 simp only [lv,isW] at *
 by_cases hc:x0=c
 ·subst hc
  go_enter Try.func96,Try.ntmps96
  go_wp2_with fail
  all_goals (go_ret;refine ⟨?_,K.out⟩;simp_all)
 ·go_enter Try.func96,Try.ntmps96
  go_wp2_with fail
  all_goals (go_ret;refine ⟨?_,K.out⟩;simp_all)
theorem Zjb (cap:Array Value) (w:World):(callFunc 76 cap).run Try.prog w=.ok (.enter 76 cap) w:=by
 simp [go_sem]
theorem callWith (cap:Array Value) (w:World):(callFunc 96 cap).run Try.prog w=.ok (.enter 96 cap) w:=by
 simp [go_sem]
theorem index_with (c f:Int) (a:Nat) (l:Value) (xs:List LeM) (w:World) (hr:RowE encL w l xs) (hn6:xs.length<=1000000) (h1:w.cell? ⟨a,0,none⟩=some (.int .i64 c)) (h2:w.cell? ⟨a,2,none⟩=some (.int .i64 f)) :
  Calls Try.prog 94 #[l,.func (.func 96) #[] #[.pointer (some ⟨a,0,none⟩)]] w fun e w'=>e=.returned (.int .i64 (idx (isW c f) xs))/\Ex w w':=by
 by_cases h0:0 < xs.length
 ·obtain ⟨ad,cap,rfl,_⟩:=hr.len
  obtain ⟨b,off,rfl,_⟩:=hr.addr h0
  exact dlw.index_any (isW c f) _ _ callWith b off xs.length cap xs w hr rfl hn6 (fun W hW x=>asked c f x a W (hW.on h1) (hW.on h2))
 ·obtain rfl:xs=[]:=List.eq_nil_of_length_eq_zero (by omega)
  obtain ⟨ad,cap,rfl,_⟩:=hr.len
  refine (Zf0 cap _ w ad).mono ?_
  rintro e w' ⟨rfl,rfl⟩
  exact ⟨rfl,Ex.refl _⟩
set_option maxHeartbeats 2000000 in
theorem Zhd (c:Int) (l:Value) (xs:List LeM) (w:World) (hr:RowE encL w l xs) (hn6:xs.length<=1000000) :
  Calls Try.prog 56 #[l,.int .i64 c] w (OwnsW w (xs.filter fun x=>!(x.1 == c))):=by
 obtain ⟨a,cap,rfl,h1,h2⟩:=hr.len
 have gA:=Ex.mk_alloc w (.cells #[.int .i64 c] 3)
 have gB:=Ex.mk_alloc (w.alloc (.cells #[.int .i64 c] 3)) (.cells #[.slice a xs.length cap] 28)
 have HC:=Lib.hid (caw.concat_at (w.heap.size+1) (.slice a xs.length cap) xs ((w.alloc (.cells #[.int .i64 c] 3)).alloc (.cells #[.slice a xs.length cap] 28)) (by rw [World.cell?_alloc_at _ _ _ _ (by rw [World.size_alloc])];rfl) (hr.ex (Ex.trans gA gB)) hn6)
 have HP:=Lib.hid fun W (hW:Ex (w.alloc (.cells #[.int .i64 c] 3)) W) x=>Zkf c x w.heap.size W (Zcd hW 0 _ rfl)
 have GA:=Lib.hid gA
 clear gA gB hr
 go_enter Try.func56,Try.ntmps56
 go_wp2_with (go_at_call 27;refine HC.out.mono ?_;rintro e w1 ⟨v,rfl,hown,g1⟩;have HW:=Lib.hid hown;rcases hown.2 with ⟨rfl,h0⟩ | ⟨b,cap',cur,rfl,hb,hq,hqq⟩ <;> clear hown)
 ·refine (Zgl _ _).mono ?_
  rintro e w2 ⟨rfl,rfl⟩
  go_wp2_with fail
  go_ret
  have hx:xs=[]:=List.eq_nil_of_length_eq_zero h0
  subst hx
  exact ⟨_,rfl,World.ownsRow_nil _ _ _ _,Ex.trans GA.out (Ex.trans (Ex.mk_alloc _ _) g1)⟩
 ·refine (dlw.delete_any (fun x=>x.1 == c) _ _ Zjb _ b _ cap' xs _ HW.out hn6 (fun W hW x=>HP.out W (Zf4 g1 hb hW) x)).mono ?_
  rintro e w2 ⟨rfl,hown2,gb⟩
  have HO2:=Lib.hid hown2
  clear hown2
  go_wp2_with fail
  go_ret
  exact ⟨_,rfl,Zd2 HO2.out (by simp only [World.size_alloc];omega),Ex.trans GA.out (Zf4 g1 hb gb)⟩
end Go.Proofs.Ytcaclmdkhffegaa.wdr
