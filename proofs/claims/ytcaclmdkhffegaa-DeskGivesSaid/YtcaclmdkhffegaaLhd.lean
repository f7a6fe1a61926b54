/- Texts joined. -/
import Derived.Test.YtcaclmdkhffegaaChecked
import Derived.Test.YtcaclmdkhffegaaWlm
import Derived.OpenShut
import Derived.OwnWalk
import Derived.WalkLawsBesides
import Derived.KernelRfl
import Derived.Lib.AppendZeros
import Derived.Lib.AppendZerosOnto
import Derived.Outline
import Derived.Test.YtcaclmdkhffegaaDlf
section
/- slices.Grow at nil and slices.Concat at []api.Lease. -/
namespace Go.Proofs.Ytcaclmdkhffegaa.catL
open Go.RowKit
set_option maxRecDepth 100000

theorem info_el:(Try.prog.info? 57).map (fun i=>(i.zero,i.size,i.bytes))=some (some (.agg #[.int .i64 0,.int .i64 0,.int .i64 0,.int .i64 0]),4,32):=by kernel_rfl
def Owns (w:World) (xs:List lem.LeM) (e:Ending) (w':World):Prop:=∃ v,e=.returned v/\w'.ownsRow w.heap.size 57 4 v xs.length (lem.encL.all xs)/\Ex w w'

theorem Zmo (n:Nat) (hn:n<=1000000) (w:World) :
  Calls Try.prog 83 #[.slice none 0 0,.int .i64 (n:Int)] w (Owns w []):=by
 obtain ⟨i0,hi,hz0,hz1,hz2⟩:=info_parts info_el
 by_cases h0:0 < n
 ·have hr:=Lib.run_append_nil_zeros (P:=Try.prog) w 27 3 27 57 i0 (.agg #[.int .i64 0,.int .i64 0,.int .i64 0,.int .i64 0]) .i64 .i64 Try.underlying27 Try.underlying3 hi hz0 n h0 (by omega) (by omega) (by rw [hz2];omega)
  have hcap:=grownCap_ge w n 0 57
  have hcm:grownCap w n 0 57<=maxLen:=grownCap_le_maxLen w n 0 57 (by unfold maxLen;omega)
  have i1:(0:Int) < (n:Int):=by omega
  have HO:=Lib.hid (show (w.drew.alloc (.cells (Builtin.zeroCells (Value.cells (.agg #[.int .i64 0,.int .i64 0,.int .i64 0,.int .i64 0])) n++Builtin.zeroCells (Value.cells (.agg #[.int .i64 0,.int .i64 0,.int .i64 0,.int .i64 0])) (grownCap w n 0 57 - n)) 57)).ownsRow w.heap.size 57 4 (.slice (some ⟨w.heap.size,0,none⟩) 0 (grownCap w n 0 57)) 0 [] from
   World.ownsRow_made w.drew _ _ (Nat.le_refl _) hcm (by simp only [Array.size_append,size_zeroCells];show n * 4+_ * 4=_;omega))
  have HE:=Lib.hid (show Ex w (w.drew.alloc (.cells (Builtin.zeroCells (Value.cells (.agg #[.int .i64 0,.int .i64 0,.int .i64 0,.int .i64 0])) n++Builtin.zeroCells (Value.cells (.agg #[.int .i64 0,.int .i64 0,.int .i64 0,.int .i64 0])) (grownCap w n 0 57 - n)) 57)) from ((Below.refl _ _).drew).alloc (Nat.le_refl _) _)
  have HR:=Lib.hid hr
  clear hr
  generalize hc:grownCap w n 0 57=c at *
  generalize hW:w.drew.alloc (.cells (Builtin.zeroCells (Value.cells (.agg #[.int .i64 0,.int .i64 0,.int .i64 0,.int .i64 0])) n++Builtin.zeroCells (Value.cells (.agg #[.int .i64 0,.int .i64 0,.int .i64 0,.int .i64 0])) (c - n)) 57)=W at *
  generalize hq:w.heap.size=q at *
  unfold maxLen at hcm
  have HQ:=Lib.hid hq
  clear hW hq hc
  go_enter Try.func83,Try.ntmps83
  go_wp2_with (at_builtin;refine Lib.wpList_append_run _ rfl _ _ _ _ rfl _ _ rfl rfl _ _ HR.out ?_)
  go_ret
  exact ⟨_,rfl,by rw [HQ.out];exact HO.out,HE.out⟩
 ·obtain rfl:n=0:=by omega
  go_enter Try.func83,Try.ntmps83
  go_wp2_with fail
  go_ret
  exact ⟨_,rfl,World.ownsRow_nil _ _ _ _,Ex.refl _⟩

def Rows (w:World) (vs:List Value) (xss:List (List lem.LeM)):Prop :=
 vs.length=xss.length/\∀ i v,vs[i]?=some v->RowE lem.encL w v (xss.getD i [])
theorem Rows.ex {w w':World} {vs:List Value} {xss:List (List lem.LeM)} (h:Rows w vs xss) (g:Ex w w'):Rows w' vs xss :=
 ⟨h.1,fun i v hv=>(h.2 i v hv).ex g⟩
theorem Rows.one {w:World} {v:Value} {xs:List lem.LeM} (h:RowE lem.encL w v xs):Rows w [v] [xs] :=
 ⟨rfl,fun i u hu=>by
  cases i with
  | zero=>simp at hu;subst hu;exact h
  | succ i=>simp at hu⟩
theorem Zcq {xss:List (List lem.LeM)} {k:Nat} (h:k < xss.length):(xss.take (k+1)).flatten=(xss.take k).flatten++xss.getD k []:=by
 rw [List.take_add_one,show xss[k]?.toList=[xss.getD k []] by simp [List.getD,h],List.flatten_append]
 simp
theorem Zg8 (xss:List (List lem.LeM)) (k:Nat):(xss.take k).flatten.length<=xss.flatten.length:=by
 conv=>rhs;rw [<- List.take_append_drop k xss,List.flatten_append,List.length_append]
 omega

def RCat (w:World) (xss:List (List lem.LeM)) (s i:Value) (wr:World):Prop :=
 ∃ k:Nat,k<=xss.length/\i=.int .i64 k/\s=.int .i64 ((xss.take k).flatten.length:Nat)/\w=wr
def RCat2 (w:World) (xss:List (List lem.LeM)) (v i:Value) (wr:World):Prop :=
 ∃ k:Nat,k<=xss.length/\i=.int .i64 k/\wr.ownsRow w.heap.size 57 4 v ((xss.take k).flatten.length) (lem.encL.all (xss.take k).flatten)/\Ex w wr

set_option maxHeartbeats 800000 in
theorem concat_any (v : Value) (vs : List Value) (xss : List (List lem.LeM)) (w : World) (hv : RowV w v vs) (hr : Rows w vs xss) (hl : xss.flatten.length <= 1000000) :
    Calls Try.prog 64 #[v] w (Owns w xss.flatten) := by
  obtain ⟨a, cap, rfl, h1, h2, h3⟩ := hv
  have HL := Lib.hid hr.1
  have hll := hr.1
  rw [hll] at h1 h3 ⊢
  have HR := Lib.hid hr
  clear hr hll
  unfold maxLen at h2
  obtain ⟨i0, hi, hz0, hz1, hz2⟩ := info_parts info_el
  go_enter Try.func64, Try.ntmps64
  go_wp2_with fail
  go_loopw [3, 11] (RCat w xss) (fun _ i _ => xss.length - (intOf i).toNat)
  case atStart => exact ⟨0, by omega, rfl, rfl, rfl⟩
  case round =>
    obtain ⟨k, hk, rfl, rfl, rfl⟩ := hrel
    have hfl := Zg8 xss k
    by_cases hlt : k < xss.length
    · obtain ⟨b, off, rfl, hc⟩ := h3 (by omega)
      have hvk : vs[k]? = some (vs.getD k default) := by
        have : k < vs.length := by rw [HL.out]; exact hlt
        simp [List.getD, this]
      have ck := hc k _ hvk
      have hrk := HR.out.2 k _ hvk
      obtain ⟨a', cap', hve, g1, g2⟩ := hrk.len
      rw [hve] at ck
      clear hve hvk hrk
      have i0' : (0 : Int) <= (k : Int) := by omega
      have i1' : (k : Int) < (xss.length : Int) := by omega
      have hfs := Zg8 xss (k + 1)
      rw [Zcq hlt, List.length_append] at hfs
      have HF := Lib.hid (Zcq hlt)
      generalize xss.getD k [] = ys at *
      generalize (xss.take k).flatten = fs at *
      unfold maxLen at g2
      clear hc h3
      go_wp2_with fail
      go_roundw
      case rel => exact ⟨k + 1, by omega, by go_num, by rw [HF.out, List.length_append]; go_num, rfl⟩
      case measure => simp [intOf]; omega
    · have hk : k = xss.length := by omega
      have HK := Lib.hid hk
      clear hk
      rw [HK.out, List.take_length] at hfl ⊢
      generalize hN : xss.flatten.length = N at *
      have HN := Lib.hid hN
      clear hN hfl
      go_wp2_with fail
      refine (Zmo N hl _).mono ?_
      rintro e w1 ⟨u, rfl, hown, g1⟩
      have HRow := Lib.hid (fun hp => h3 hp)
      clear h3
      go_wp2_with fail
      go_loopw [6, 27] (RCat2 w xss) (fun _ i _ => xss.length - (intOf i).toNat)
      case atStart => exact ⟨0, by omega, rfl, hown, g1⟩
      case round =>
        obtain ⟨k, hk, rfl, hown, gk⟩ := hrel
        by_cases hlt : k < xss.length
        · obtain ⟨b, off, rfl, hc⟩ := HRow.out (by omega)
          have hvk : vs[k]? = some (vs.getD k default) := by
            have : k < vs.length := by rw [HL.out]; exact hlt
            simp [List.getD, this]
          have ck := gk.on (hc k _ hvk)
          have hrk := (HR.out.2 k _ hvk).ex gk
          obtain ⟨a', cap', hve, g1, g2⟩ := hrk.len
          rw [hve] at ck hrk
          have HRK := Lib.hid hrk
          clear hve hvk hrk
          have i0' : (0 : Int) <= (k : Int) := by omega
          have i1' : (k : Int) < (xss.length : Int) := by omega
          have hfs := Zg8 xss (k + 1)
          rw [Zcq hlt, List.length_append, HN.out] at hfs
          have HF := Lib.hid (Zcq hlt)
          have HO := Lib.hid hown
          clear hown
          generalize xss.getD k [] = ys at *
          generalize (xss.take k).flatten = fs at *
          unfold maxLen at g2
          clear hc
          have hgs := gk.size
          go_wp2_with (first
            | (at_builtin
               refine wpList_append_rowE _ rfl lem.encL (.tmp 31) (.tmp 32) 27 rfl w.heap.size 57 i0 (.agg #[.int .i64 0, .int .i64 0, .int .i64 0, .int .i64 0]) 4 32 Try.underlying27 hi hz0 hz1 hz2 rfl rfl _ fs.length (lem.encL.all fs) rfl HO.out _ ys rfl HRK.out ?c1 ?c2 w gk ?c3 ?_
               rotate_right
               intro v' w1 hown' gb))
          case c1 => unfold maxLen; omega
          case c2 => omega
          case c3 => exact hgs
          go_wp2_with fail
          go_roundw
          case rel => exact ⟨k + 1, by omega, by go_num, by rw [HF.out, lem.encL.all_append, List.length_append]; exact hown', gb⟩
          case measure => simp [intOf]; omega
        · have hk : k = xss.length := by omega
          have HK := Lib.hid hk
          clear hk
          go_wp2_with fail
          go_ret
          exact ⟨_, rfl, by have := hown; rw [HK.out, List.take_length] at this; exact this, gk⟩

theorem Zie (v u:Value) (xs:List lem.LeM) (w:World) (hv:RowV w v [u]) (hr:RowE lem.encL w u xs) (hl:xs.length<=1000000) :
  Calls Try.prog 64 #[v] w (Owns w xs):=by
 have:=concat_any v [u] [xs] w hv (Rows.one hr) (by simpa using hl)
 simpa using this
theorem concat_at (b:Nat) (u:Value) (xs:List lem.LeM) (w:World) (hc:w.cell? ⟨b,0,none⟩=some u) (hr:RowE lem.encL w u xs) (hl:xs.length<=1000000) :
  Calls Try.prog 64 #[.slice (some ⟨b,0,none⟩) 1 1] w (Owns w xs) :=
 Zie _ u xs w ⟨_,1,rfl,by simp,by simp [maxLen],fun _=>⟨b,0,rfl,fun i v hv=>by
  cases i with
  | zero=>simp at hv;subst hv;simpa using hc
  | succ i=>simp at hv⟩⟩ hr hl

end Go.Proofs.Ytcaclmdkhffegaa.catL
end
section
/- lease.Drop and lease.Prune, by hand. -/
namespace Go.Proofs.Ytcaclmdkhffegaa.lhd
set_option maxRecDepth 100000
set_option linter.unusedVariables false
set_option linter.unusedSimpArgs false
open Go.RowKit ins lem dlf

theorem Zhq (fv:Value) (w:World):Calls Try.prog 82 #[.slice none 0 0,fv] w fun e w'=>e=.returned (.int .i64 (-1))/\w=w':=by
 go_enter Try.func82,Try.ntmps82
 go_wp2_with fail
 go_loopw [5,8] (fun _ s8 wr=>s8=.int .i64 0/\w=wr) (fun _ i _=>0)
 case atStart=>exact ⟨rfl,rfl⟩
 case round =>
  obtain ⟨rfl,rfl⟩:=hrel
  go_wp2_with fail
  go_ret
  exact ⟨rfl,rfl⟩
theorem Zid (fv:Value) (w:World):Calls Try.prog 63 #[.slice none 0 0,fv] w fun e w'=>e=.returned (.slice none 0 0)/\w=w':=by
 have hI:=Zhq fv w
 go_enter Try.func63,Try.ntmps63
 go_wp2_with (go_at_call 82;refine hI.mono ?_;rintro e w' ⟨rfl,rfl⟩)
 go_ret
 exact ⟨rfl,rfl⟩
def OwnsL (w:World) (xs:List LeM) (e:Ending) (w':World):Prop:=∃ v,e=.returned v/\w'.ownsRow w.heap.size 57 4 v xs.length (encL.all xs)/\Ex w w'
theorem Zhv {w w1 W:World} {o:Obj} {b:Nat} (g1:Ex (w.alloc o) w1) (hb:(w.alloc o).heap.size<=b) (hW:w1.grownBy W (some b)):Ex w W:=by
 have h:=Ex.trans (Ex.mk_alloc w o) g1
 have h2:=g1.size
 simp only [World.size_alloc] at hb h2
 exact Below.grown h hW h.size (fun k hk=>by cases hk;omega)
set_option maxHeartbeats 2000000 in
theorem without_any (p:LeM->Bool) (g:Nat) (lb:Array Value) (eg:∀ args w,(callFunc g args).run Try.prog w=.ok (.enter g args) w) (l:Value) (xs:List LeM) (w:World) (hr:RowE encL w l xs) (hn6:xs.length<=1000000)
  (hp:∀ W,Ex w W->∀ x,Calls Try.prog g (#[lv x]++lb) W fun e W'=>e=.returned (.bool (p x))/\Ex W W') :
  Calls Try.prog 46 #[l,.func (.func g) #[] lb] w (OwnsL w (xs.filter fun x=>!p x)):=by
 obtain ⟨a,cap,rfl,h1,h2⟩:=hr.len
 have HC:=Lib.hid (catL.concat_at w.heap.size (.slice a xs.length cap) xs (w.alloc (.cells #[.slice a xs.length cap] 27)) (by rw [World.cell?_alloc_at _ _ _ _ rfl];rfl) (hr.ex (Ex.mk_alloc w _)) hn6)
 have HP:=Lib.hid hp
 clear hr hp
 go_enter Try.func46,Try.ntmps46
 go_wp2_with (go_at_call 64;refine HC.out.mono ?_;rintro e w1 ⟨v,rfl,hown,g1⟩;have HW:=Lib.hid hown;rcases hown.2 with ⟨rfl,h0⟩ | ⟨b,cap',cur,rfl,hb,hq,hqq⟩ <;> clear hown)
 ·refine (Zid _ _).mono ?_
  rintro e w2 ⟨rfl,rfl⟩
  go_wp2_with fail
  go_ret
  have hx:xs=[]:=List.eq_nil_of_length_eq_zero h0
  subst hx
  exact ⟨_,rfl,World.ownsRow_nil _ _ _ _,Ex.trans (Ex.mk_alloc w _) g1⟩
 ·refine (delete_any p g lb eg _ b _ cap' xs _ HW.out hn6 (fun W hW x=>HP.out W (Zhv g1 hb hW) x)).mono ?_
  rintro e w2 ⟨rfl,hown2,gb⟩
  have HO2:=Lib.hid hown2
  clear hown2
  go_wp2_with fail
  go_ret
  exact ⟨_,rfl,Zfb HO2.out (by simp),Zhv g1 hb gb⟩

theorem is_any (c f:Int) (x:LeM) (W:World):Calls Try.prog 48 #[lv x,.int .i64 c,.int .i64 f] W fun e W'=>e=.returned (.bool (x.1 == c && x.2.1 == f))/\Ex W W':=by
 have K:=Lib.hid (Ex.mk_alloc W (.cells #[.int .i64 x.1,.int .i64 x.2.1,.int .i64 x.2.2.1,.int .i64 x.2.2.2] 57))
 obtain ⟨x0,x1,x2,x3⟩:=x
 simp only [lv] at *
 go_enter Try.func48,Try.ntmps48
 go_wp2_with fail
 all_goals (go_ret;refine ⟨?_,Ex.mk_alloc _ _⟩;simp_all)
theorem over_any (n:Int) (x:LeM) (W:World):Calls Try.prog 66 #[lv x,.int .i64 n] W fun e W'=>e=.returned (.bool (decide (x.2.2.2<=n)))/\Ex W W':=by
 have K:=Lib.hid (Ex.mk_alloc W (.cells #[.int .i64 x.1,.int .i64 x.2.1,.int .i64 x.2.2.1,.int .i64 x.2.2.2] 57))
 obtain ⟨x0,x1,x2,x3⟩:=x
 simp only [lv] at *
 go_enter Try.func66,Try.ntmps66
 go_wp2_with fail
 all_goals (go_ret;refine ⟨?_,Ex.mk_alloc _ _⟩;simp_all)
theorem Zn8 (c f:Int) (x:LeM) (a b:Nat) (W:World) (h1:W.cell? ⟨a,0,none⟩=some (.int .i64 c)) (h2:W.cell? ⟨b,0,none⟩=some (.int .i64 f)) :
  Calls Try.prog 47 (#[lv x]++#[.pointer (some ⟨a,0,none⟩),.pointer (some ⟨b,0,none⟩)]) W fun e W'=>e=.returned (.bool (x.1 == c && x.2.1 == f))/\Ex W W':=by
 have ha:a < W.heap.size:=World.block_lt_of_cell? _ _ h1
 have hb:b < W.heap.size:=World.block_lt_of_cell? _ _ h2
 have hw:=Ex.mk_alloc W (.cells #[.int .i64 x.1,.int .i64 x.2.1,.int .i64 x.2.2.1,.int .i64 x.2.2.2] 57)
 have k1:=hw.on h1
 have k2:=hw.on h2
 have K:=Lib.hid hw
 clear hw h1 h2
 obtain ⟨x0,x1,x2,x3⟩:=x
 simp only [lv] at *
 go_enter Try.func47,Try.ntmps47
 go_wp2_with (go_at_call 48;refine (is_any c f (x0,x1,x2,x3) _).mono ?_;rintro e w2 ⟨rfl,gg⟩)
 go_ret
 exact ⟨rfl,Ex.trans K.out gg⟩
theorem pruned (n:Int) (x:LeM) (a:Nat) (W:World) (h1:W.cell? ⟨a,0,none⟩=some (.int .i64 n)) :
  Calls Try.prog 65 (#[lv x]++#[.pointer (some ⟨a,0,none⟩)]) W fun e W'=>e=.returned (.bool (decide (x.2.2.2<=n)))/\Ex W W':=by
 have ha:a < W.heap.size:=World.block_lt_of_cell? _ _ h1
 have hw:=Ex.mk_alloc W (.cells #[.int .i64 x.1,.int .i64 x.2.1,.int .i64 x.2.2.1,.int .i64 x.2.2.2] 57)
 have k1:=hw.on h1
 have K:=Lib.hid hw
 clear hw h1
 obtain ⟨x0,x1,x2,x3⟩:=x
 simp only [lv] at *
 go_enter Try.func65,Try.ntmps65
 go_wp2_with (go_at_call 66;refine (over_any n (x0,x1,x2,x3) _).mono ?_;rintro e w2 ⟨rfl,gg⟩)
 go_ret
 exact ⟨rfl,Ex.trans K.out gg⟩
theorem Zmv (cap:Array Value) (w:World):(callFunc 47 cap).run Try.prog w=.ok (.enter 47 cap) w:=by
 simp [go_sem]
theorem callPrune (cap:Array Value) (w:World):(callFunc 65 cap).run Try.prog w=.ok (.enter 65 cap) w:=by
 simp [go_sem]
set_option maxHeartbeats 2000000 in
theorem Zjs (c f:Int) (l:Value) (xs:List LeM) (w:World) (hr:RowE encL w l xs) (hn6:xs.length<=1000000) :
  Calls Try.prog 26 #[l,.int .i64 c,.int .i64 f] w (OwnsL w (xs.filter fun x=>!(x.1 == c && x.2.1 == f))):=by
 obtain ⟨a,cap,rfl,h1,h2⟩:=hr.len
 have gA:=Ex.mk_alloc w (.cells #[.int .i64 c] 3)
 have gB:=Ex.mk_alloc (w.alloc (.cells #[.int .i64 c] 3)) (.cells #[.int .i64 f] 3)
 have HC:=Lib.hid (without_any (fun x=>x.1 == c && x.2.1 == f) 47 #[.pointer (some ⟨w.heap.size,0,none⟩),.pointer (some ⟨w.heap.size+1,0,none⟩)] Zmv (.slice a xs.length cap) xs ((w.alloc (.cells #[.int .i64 c] 3)).alloc (.cells #[.int .i64 f] 3)) (hr.ex (Ex.trans gA gB)) hn6 (fun W hW x=>Zn8 c f x _ _ W (Zc2 (Ex.trans gB hW) 0 _ rfl) (by
  have:=Zc2 hW 0 (.int .i64 f) rfl
  simpa using this)))
 have HG:=Lib.hid (Ex.trans gA gB)
 clear gA gB hr
 go_enter Try.func26,Try.ntmps26
 go_wp2_with (go_at_call 46;refine HC.out.mono ?_;rintro e w1 ⟨v,rfl,hown,g1⟩;have HW:=Lib.hid hown;clear hown)
 go_ret
 exact ⟨_,rfl,Zfb HW.out (by simp only [World.size_alloc];omega),Ex.trans HG.out g1⟩
set_option maxHeartbeats 2000000 in
theorem prune_any (t:Int) (l:Value) (xs:List LeM) (w:World) (hr:RowE encL w l xs) (hn6:xs.length<=1000000) :
  Calls Try.prog 50 #[l,.int .i64 t] w (OwnsL w (xs.filter fun x=>!decide (x.2.2.2<=t))):=by
 obtain ⟨a,cap,rfl,h1,h2⟩:=hr.len
 have gA:=Ex.mk_alloc w (.cells #[.int .i64 t] 3)
 have HC:=Lib.hid (without_any (fun x=>decide (x.2.2.2<=t)) 65 #[.pointer (some ⟨w.heap.size,0,none⟩)] callPrune (.slice a xs.length cap) xs (w.alloc (.cells #[.int .i64 t] 3)) (hr.ex gA) hn6 (fun W hW x=>pruned t x _ W (Zc2 hW 0 _ rfl)))
 have HG:=Lib.hid gA
 clear gA hr
 go_enter Try.func50,Try.ntmps50
 go_wp2_with (go_at_call 46;refine HC.out.mono ?_;rintro e w1 ⟨v,rfl,hown,g1⟩;have HW:=Lib.hid hown;clear hown)
 go_ret
 exact ⟨_,rfl,Zfb HW.out (by simp only [World.size_alloc];omega),Ex.trans HG.out g1⟩
end Go.Proofs.Ytcaclmdkhffegaa.lhd
end
