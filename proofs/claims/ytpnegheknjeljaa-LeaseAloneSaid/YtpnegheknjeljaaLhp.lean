/- What is recovered in package lease, by hand; Holds where there is no such lease. -/
import Derived.Test.YtpnegheknjeljaaLho
import Derived.Laws.IdiomStrings
import Derived.Recover
import Derived.Shelf.RegionOpenPlain
namespace Go.Proofs.Ytpnegheknjeljaa.lhp
open Go Go.RowKit eng SX Fact fil lem lea lho
set_option maxRecDepth 100000
set_option linter.unusedVariables false
set_option linter.unusedSimpArgs false

theorem rec_panic (u:TypeId) (pv:Value) (older:List PanicEntry) (w:World) :
  CallsD Try.prog 30 #[] (.panicking ({ v:=.iface u pv,recovered:=false } :: older)) w fun e u' w' =>
   e=.returned (.tuple #[])/\u'=.panicking ({ v:=.iface u pv,recovered:=true } :: older)/\w'=w:=by
 refine callsD_of_wpS Try.func30 rfl fun c₀ cs hu=>?_
 apply wpS_region
 simp [wpOpsS,go_sem,recoverD,hu,Try.ntmps30,bodyPostS,results,Try.results30]
theorem rec_idle (w:World) :
  CallsD Try.prog 30 #[] .returning w fun e u' w'=>e=.returned (.tuple #[])/\u'=.returning/\w'=w:=by
 refine callsD_of_wpS Try.func30 rfl fun c₀ cs hu=>?_
 apply wpS_region
 simp [wpOpsS,go_sem,recoverD,hu,Try.ntmps30,bodyPostS,results,Try.results30]
 cases c₀
 simp_all
theorem ends_yes (fid:FuncId) (cap:Array Value) (w:World) (R:World->Prop) (hc:∀ w,(callFunc fid cap).run Try.prog w=.ok (.enter fid cap) w)
  (h:Calls Try.prog fid cap w fun e w'=>e=.returned (.tuple #[])/\R w') :
  Calls Try.prog 21 #[.func (.func fid) #[] cap] w fun e w'=>e=.returned (.bool true)/\R w':=by
 have H:=Lib.hid h
 clear h
 go_enter_defers Try.func21,Try.ntmps21
 go_wp2_with fail
 refine H.out.mono ?_
 rintro e w' ⟨rfl,he⟩
 go_wp2_with fail
 refine leaves_cons (f:=30) (args:=#[]) (by simp) (by simp [go_sem]) ?_
 refine (rec_idle _).mono ?_
 rintro e u' w'' ⟨rfl,rfl,rfl⟩
 simp [Leaves,settle,results,Try.results21,go_sem]
 exact he
theorem ends_no (u:TypeId) (pv:Value) (fid:FuncId) (cap:Array Value) (w:World) (R:World->Prop) (hc:∀ w,(callFunc fid cap).run Try.prog w=.ok (.enter fid cap) w)
  (h:Calls Try.prog fid cap w fun e w'=>e=.panicked [{ v:=.iface u pv,recovered:=false }]/\R w') :
  Calls Try.prog 21 #[.func (.func fid) #[] cap] w fun e w'=>e=.returned (.bool false)/\R w':=by
 have H:=Lib.hid h
 clear h
 go_enter_defers Try.func21,Try.ntmps21
 go_wp2_with fail
 refine H.out.mono ?_
 rintro e w' ⟨rfl,he⟩
 refine leaves_cons (f:=30) (args:=#[]) (by simp) (by simp [go_sem]) ?_
 refine (rec_panic _ _ _ _).mono ?_
 rintro e u' w'' ⟨rfl,rfl,rfl⟩
 simp [Leaves,settle,results,Try.results21,go_sem]
 exact he
theorem callHolds (cap:Array Value) (w:World):(callFunc 24 cap).run Try.prog w=.ok (.enter 24 cap) w:=by
 simp [go_sem]
set_option maxHeartbeats 2000000 in
theorem holds_none (l:Value) (xs:List LeM) (now c f:Int) (w:World) (hr:RowE encL w l xs) (hl:xs.length<=1000000) (hn:xs.find? (isL c f)=none) :
  Calls Try.prog 10 #[l,.int .i64 now,.int .i64 c,.int .i64 f] w fun e w'=>e=.returned (.int .i64 0)/\Ex w w':=by
 obtain ⟨a,cap,rfl,h1,h2⟩:=hr.len
 have g0:=Ex.mk_alloc w (.cells #[.slice a xs.length cap] 24)
 obtain ⟨w0,hw0⟩:∃ x,x=w.alloc (.cells #[.slice a xs.length cap] 24):=⟨_,rfl⟩
 rw [<- hw0] at g0
 have g1:=Ex.mk_alloc w0 (.cells #[.int .i64 now] 3)
 obtain ⟨w1,hw1⟩:∃ x,x=w0.alloc (.cells #[.int .i64 now] 3):=⟨_,rfl⟩
 rw [<- hw1] at g1
 have g2:=Ex.mk_alloc w1 (.cells #[.int .i64 c] 3)
 obtain ⟨w2,hw2⟩:∃ x,x=w1.alloc (.cells #[.int .i64 c] 3):=⟨_,rfl⟩
 rw [<- hw2] at g2
 have g3:=Ex.mk_alloc w2 (.cells #[.int .i64 f] 3)
 obtain ⟨w3,hw3⟩:∃ x,x=w2.alloc (.cells #[.int .i64 f] 3):=⟨_,rfl⟩
 rw [<- hw3] at g3
 have g4:=Ex.mk_alloc w3 (.cells #[.int .i64 0] 3)
 obtain ⟨w4,hw4⟩:∃ x,x=w3.alloc (.cells #[.int .i64 0] 3):=⟨_,rfl⟩
 rw [<- hw4] at g4
 have s0:w0.heap.size=w.heap.size+1:=by rw [hw0,World.size_alloc]
 have s1:w1.heap.size=w.heap.size+2:=by rw [hw1,World.size_alloc,s0]
 have s2:w2.heap.size=w.heap.size+3:=by rw [hw2,World.size_alloc,s1]
 have s3:w3.heap.size=w.heap.size+4:=by rw [hw3,World.size_alloc,s2]
 have k0:w4.cell? ⟨w.heap.size,0,none⟩=some (.slice a xs.length cap):=Zbr (by rw [<- hw0];exact Ex.trans g1 (Ex.trans g2 (Ex.trans g3 g4))) 0 _ rfl
 have k3:w4.cell? ⟨w.heap.size+1,0,none⟩=some (.int .i64 now):=by
  have:=Zbr (w:=w0) (by rw [<- hw1];exact Ex.trans g2 (Ex.trans g3 g4)) 0 (.int .i64 now) rfl
  rwa [s0] at this
 have k1:w4.cell? ⟨w.heap.size+2,0,none⟩=some (.int .i64 c):=by
  have:=Zbr (w:=w1) (by rw [<- hw2];exact Ex.trans g3 g4) 0 (.int .i64 c) rfl
  rwa [s1] at this
 have k2:w4.cell? ⟨w.heap.size+3,0,none⟩=some (.int .i64 f):=by
  have:=Zbr (w:=w2) (by rw [<- hw3];exact g4) 0 (.int .i64 f) rfl
  rwa [s2] at this
 have k4:w4.cell? ⟨w.heap.size+4,0,none⟩=some (.int .i64 0):=by
  have:=Zbr (w:=w3) (by rw [<- hw4];exact Ex.refl w4) 0 (.int .i64 0) rfl
  rwa [s3] at this
 have k4f:w4.frozen? ⟨w.heap.size+4,0,none⟩=false:=by
  have:=Zeq (w:=w3) (w1:=w4) (by rw [<- hw4];exact Ex.refl w4) 0
  rwa [s3] at this
 have gg:=Ex.trans g0 (Ex.trans g1 (Ex.trans g2 (Ex.trans g3 g4)))
 have HO:=Lib.hid (one_none (.slice a xs.length cap) xs now c f w.heap.size (w.heap.size+2) (w.heap.size+3) (w.heap.size+1) (w.heap.size+4) w4 (hr.ex gg) hl hn k0 k1 k2 k3)
 have HG:=Lib.hid gg
 clear k0 k1 k2 k3 g0 g1 g2 g3 g4 gg
 go_enter Try.func10,Try.ntmps10
 rw [hw4,hw3,hw2,hw1,hw0] at *
 go_wp2_with fail
 refine (ends_no _ _ 24 _ _ (fun W=>Ex _ W) (callHolds _) HO.out).mono ?_
 rintro e W ⟨rfl,g⟩
 have c4:=g.on k4
 have f4:=g.fz (p:=⟨w.heap.size+4,0,none⟩) (by simp) k4f
 have GW:=Lib.hid (Ex.trans HG.out g)
 have hsz:=g.size
 clear g k4 k4f
 go_wp2_with fail
 have hx:Ex w (W.setCell ⟨w.heap.size+4,0,none⟩ (.int .i64 0)):=GW.out.st (by show w.heap.size<=w.heap.size+4;omega) _
 have hc:(W.setCell ⟨w.heap.size+4,0,none⟩ (.int .i64 0)).cell? ⟨w.heap.size+4,0,none⟩=some (.int .i64 0):=World.cell?_setCell_same W _ _ c4
 first
  | (go_ret;exact ⟨rfl,hx⟩)
  | (simp [bodyPost,results,Try.results10,go_sem,hc];exact hx)
end Go.Proofs.Ytpnegheknjeljaa.lhp
