/- lease.Drop and lease.Prune, by hand. -/
import Derived.Test.YtcaclmdkhffegaaDlf
import Derived.Test.YtcaclmdkhffegaaCatL
namespace Go.Proofs.Ytcaclmdkhffegaa.lhd
set_option maxRecDepth 100000
set_option linter.unusedVariables false
set_option linter.unusedSimpArgs false
open Go.RowKit ins lem dlf

theorem Zf0 (fv:Value) (w:World):Calls Try.prog 82 #[.slice none 0 0,fv] w fun e w'=>e=.returned (.int .i64 (-1))/\w=w':=by
 go_enter Try.func82,Try.ntmps82
 go_wp2_with fail
 go_loopw [5,8] (fun _ s8 wr=>s8=.int .i64 0/\w=wr) (fun _ i _=>0)
 case atStart=>exact ⟨rfl,rfl⟩
 case round =>
  obtain ⟨rfl,rfl⟩:=hrel
  go_wp2_with fail
  go_ret
  exact ⟨rfl,rfl⟩
theorem Zgl (fv:Value) (w:World):Calls Try.prog 63 #[.slice none 0 0,fv] w fun e w'=>e=.returned (.slice none 0 0)/\w=w':=by
 have hI:=Zf0 fv w
 go_enter Try.func63,Try.ntmps63
 go_wp2_with (go_at_call 82;refine hI.mono ?_;rintro e w' ⟨rfl,rfl⟩)
 go_ret
 exact ⟨rfl,rfl⟩
def OwnsL (w:World) (xs:List LeM) (e:Ending) (w':World):Prop:=∃ v,e=.returned v/\w'.ownsRow w.heap.size 57 4 v xs.length (encL.all xs)/\Ex w w'
theorem Zf4 {w w1 W:World} {o:Obj} {b:Nat} (g1:Ex (w.alloc o) w1) (hb:(w.alloc o).heap.size<=b) (hW:w1.grownBy W (some b)):Ex w W:=by
 have h:=Ex.trans (Ex.mk_alloc w o) g1
 have h2:=g1.size
 simp only [World.size_alloc] at hb h2
 exact Below.grown h hW h.size (fun k hk=>by cases hk;omega)
set_option maxHeartbeats 2000000 in
theorem without_any (p:LeM->Bool) (g:Nat) (lb:Array Value) (eg:∀ args w,(callFunc g args).run Try.prog w=.ok (.enter g args) w) (l:Value) (xs:List LeM) (w:World) (hr:RowE encL w l xs) (hn6:xs.length<=1000000)
  (hp:∀ W,Ex w W->∀ x,Calls Try.prog g (#[lv x]++lb) W fun e W'=>e=.returned (.bool (p x))/\Ex W W') :
  Calls Try.prog 46 #[l,.func (.func g) #[] lb] w (OwnsL w (xs.filter fun x=>!p x)):=by
 obtain ⟨a,cap,rfl,h1,h2⟩:=hr.len
 have HC:=Lib.hid (catL.concat_at w.heap.size (.slice a xs.length cap) xs (w.alloc (.cells #[.slice a xs.length cap] 27)) (by rw [World.cell?_alloc_at _ _ _ _ rfl];rfl) (hr.ex (Ex.mk_alloc w _)) hn6)
 have HP:=Lib.hid hp
 clear hr hp
 go_enter Try.func46,Try.ntmps46
 go_wp2_with (go_at_call 64;refine HC.out.mono ?_;rintro e w1 ⟨v,rfl,hown,g1⟩;have HW:=Lib.hid hown;rcases hown.2 with ⟨rfl,h0⟩ | ⟨b,cap',cur,rfl,hb,hq,hqq⟩ <;> clear hown)
 ·refine (Zgl _ _).mono ?_
  rintro e w2 ⟨rfl,rfl⟩
  go_wp2_with fail
  go_ret
  have hx:xs=[]:=List.eq_nil_of_length_eq_zero h0
  subst hx
  exact ⟨_,rfl,World.ownsRow_nil _ _ _ _,Ex.trans (Ex.mk_alloc w _) g1⟩
 ·refine (delete_any p g lb eg _ b _ cap' xs _ HW.out hn6 (fun W hW x=>HP.out W (Zf4 g1 hb hW) x)).mono ?_
  rintro e w2 ⟨rfl,hown2,gb⟩
  have HO2:=Lib.hid hown2
  clear hown2
  go_wp2_with fail
  go_ret
  exact ⟨_,rfl,Zd2 HO2.out (by simp),Zf4 g1 hb gb⟩

theorem is_any (c f:Int) (x:LeM) (W:World):Calls Try.prog 48 #[lv x,.int .i64 c,.int .i64 f] W fun e W'=>e=.returned (.bool (x.1 == c && x.2.1 == f))/\Ex W W':=by
 have K:=Lib.hid (Ex.mk_alloc W (.cells #[.int .i64 x.1,.int .i64 x.2.1,.int .i64 x.2.2.1,.int .i64 x.2.2.2] 57))
 obtain ⟨x0,x1,x2,x3⟩:=x
 simp only [lv] at *
 go_enter Try.func48,Try.ntmps48
 go_wp2_with fail
 all_goals (go_ret;refine ⟨?_,Ex.mk_alloc _ _⟩;simp_all)
theorem over_any (n:Int) (x:LeM) (W:World):Calls Try.prog 66 #[lv x,.int .i64 n] W fun e W'=>e=.returned (.bool (decide (x.2.2.2<=n)))/\Ex W W':=by
 have K:=Lib.hid (Ex.mk_alloc W (.cells #[.int .i64 x.1,.int .i64 x.2.1,.int .i64 x.2.2.1,.int .i64 x.2.2.2] 57))
 obtain ⟨x0,x1,x2,x3⟩:=x
 simp only [lv] at *
 go_enter Try.func66,Try.ntmps66
 go_wp2_with fail
 all_goals (go_ret;refine ⟨?_,Ex.mk_alloc _ _⟩;simp_all)
theorem Zkf (c f:Int) (x:LeM) (a b:Nat) (W:World) (h1:W.cell? ⟨a,0,none⟩=some (.int .i64 c)) (h2:W.cell? ⟨b,0,none⟩=some (.int .i64 f)) :
  Calls Try.prog 47 (#[lv x]++#[.pointer (some ⟨a,0,none⟩),.pointer (some ⟨b,0,none⟩)]) W fun e W'=>e=.returned (.bool (x.1 == c && x.2.1 == f))/\Ex W W':=by
 have ha:a < W.heap.size:=World.block_lt_of_cell? _ _ h1
 have hb:b < W.heap.size:=World.block_lt_of_cell? _ _ h2
 have hw:=Ex.mk_alloc W (.cells #[.int .i64 x.1,.int .i64 x.2.1,.int .i64 x.2.2.1,.int .i64 x.2.2.2] 57)
 have k1:=hw.on h1
 have k2:=hw.on h2
 have K:=Lib.hid hw
 clear hw h1 h2
 obtain ⟨x0,x1,x2,x3⟩:=x
 simp only [lv] at *
 go_enter Try.func47,Try.ntmps47
 go_wp2_with (go_at_call 48;refine (is_any c f (x0,x1,x2,x3) _).mono ?_;rintro e w2 ⟨rfl,gg⟩)
 go_ret
 exact ⟨rfl,Ex.trans K.out gg⟩
theorem pruned (n:Int) (x:LeM) (a:Nat) (W:World) (h1:W.cell? ⟨a,0,none⟩=some (.int .i64 n)) :
  Calls Try.prog 65 (#[lv x]++#[.pointer (some ⟨a,0,none⟩)]) W fun e W'=>e=.returned (.bool (decide (x.2.2.2<=n)))/\Ex W W':=by
 have ha:a < W.heap.size:=World.block_lt_of_cell? _ _ h1
 have hw:=Ex.mk_alloc W (.cells #[.int .i64 x.1,.int .i64 x.2.1,.int .i64 x.2.2.1,.int .i64 x.2.2.2] 57)
 have k1:=hw.on h1
 have K:=Lib.hid hw
 clear hw h1
 obtain ⟨x0,x1,x2,x3⟩:=x
 simp only [lv] at *
 go_enter Try.func65,Try.ntmps65
 go_wp2_with (go_at_call 66;refine (over_any n (x0,x1,x2,x3) _).mono ?_;rintro e w2 ⟨rfl,gg⟩)
 go_ret
 exact ⟨rfl,Ex.trans K.out gg⟩
theorem Zjb (cap:Array Value) (w:World):(callFunc 47 cap).run Try.prog w=.ok (.enter 47 cap) w:=by
 simp [go_sem]
theorem callPrune (cap:Array Value) (w:World):(callFunc 65 cap).run Try.prog w=.ok (.enter 65 cap) w:=by
 simp [go_sem]
set_option maxHeartbeats 2000000 in
theorem Zhd (c f:Int) (l:Value) (xs:List LeM) (w:World) (hr:RowE encL w l xs) (hn6:xs.length<=1000000) :
  Calls Try.prog 26 #[l,.int .i64 c,.int .i64 f] w (OwnsL w (xs.filter fun x=>!(x.1 == c && x.2.1 == f))):=by
 obtain ⟨a,cap,rfl,h1,h2⟩:=hr.len
 have gA:=Ex.mk_alloc w (.cells #[.int .i64 c] 3)
 have gB:=Ex.mk_alloc (w.alloc (.cells #[.int .i64 c] 3)) (.cells #[.int .i64 f] 3)
 have HC:=Lib.hid (without_any (fun x=>x.1 == c && x.2.1 == f) 47 #[.pointer (some ⟨w.heap.size,0,none⟩),.pointer (some ⟨w.heap.size+1,0,none⟩)] Zjb (.slice a xs.length cap) xs ((w.alloc (.cells #[.int .i64 c] 3)).alloc (.cells #[.int .i64 f] 3)) (hr.ex (Ex.trans gA gB)) hn6 (fun W hW x=>Zkf c f x _ _ W (Zcd (Ex.trans gB hW) 0 _ rfl) (by
  have:=Zcd hW 0 (.int .i64 f) rfl
  simpa using this)))
 have HG:=Lib.hid (Ex.trans gA gB)
 clear gA gB hr
 go_enter Try.func26,Try.ntmps26
 go_wp2_with (go_at_call 46;refine HC.out.mono ?_;rintro e w1 ⟨v,rfl,hown,g1⟩;have HW:=Lib.hid hown;clear hown)
 go_ret
 exact ⟨_,rfl,Zd2 HW.out (by simp only [World.size_alloc];omega),Ex.trans HG.out g1⟩
set_option maxHeartbeats 2000000 in
theorem prune_any (t:Int) (l:Value) (xs:List LeM) (w:World) (hr:RowE encL w l xs) (hn6:xs.length<=1000000) :
  Calls Try.prog 50 #[l,.int .i64 t] w (OwnsL w (xs.filter fun x=>!decide (x.2.2.2<=t))):=by
 obtain ⟨a,cap,rfl,h1,h2⟩:=hr.len
 have gA:=Ex.mk_alloc w (.cells #[.int .i64 t] 3)
 have HC:=Lib.hid (without_any (fun x=>decide (x.2.2.2<=t)) 65 #[.pointer (some ⟨w.heap.size,0,none⟩)] callPrune (.slice a xs.length cap) xs (w.alloc (.cells #[.int .i64 t] 3)) (hr.ex gA) hn6 (fun W hW x=>pruned t x _ W (Zcd hW 0 _ rfl)))
 have HG:=Lib.hid gA
 clear gA hr
 go_enter Try.func50,Try.ntmps50
 go_wp2_with (go_at_call 46;refine HC.out.mono ?_;rintro e w1 ⟨v,rfl,hown,g1⟩;have HW:=Lib.hid hown;clear hown)
 go_ret
 exact ⟨_,rfl,Zd2 HW.out (by simp only [World.size_alloc];omega),Ex.trans HG.out g1⟩
end Go.Proofs.Ytcaclmdkhffegaa.lhd
