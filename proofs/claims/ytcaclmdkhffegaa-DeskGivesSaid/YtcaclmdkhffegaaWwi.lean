/- Texts joined. -/
import Derived.Test.YtcaclmdkhffegaaChecked
import Derived.Test.YtcaclmdkhffegaaWlm
import Derived.OpenShut
import Derived.OwnWalk
import Derived.WalkLawsBesides
import Derived.KernelRfl
import Derived.Lib.AppendZeros
import Derived.Lib.AppendZerosOnto
import Derived.Outline
import Derived.Test.YtcaclmdkhffegaaDlw
section
/- slices.Grow at nil and slices.Concat at []api.Wait. -/
namespace Go.Proofs.Ytcaclmdkhffegaa.caw
open Go.RowKit
set_option maxRecDepth 100000

theorem info_el:(Try.prog.info? 25).map (fun i=>(i.zero,i.size,i.bytes))=some (some (.agg #[.int .i64 0,.int .i64 0,.int .i64 0,.int .i64 0]),4,32):=by kernel_rfl
def Owns (w:World) (xs:List lem.LeM) (e:Ending) (w':World):Prop:=∃ v,e=.returned v/\w'.ownsRow w.heap.size 25 4 v xs.length (lem.encL.all xs)/\Ex w w'

theorem Zmo (n:Nat) (hn:n<=1000000) (w:World) :
  Calls Try.prog 49 #[.slice none 0 0,.int .i64 (n:Int)] w (Owns w []):=by
 obtain ⟨i0,hi,hz0,hz1,hz2⟩:=info_parts info_el
 by_cases h0:0 < n
 ·have hr:=Lib.run_append_nil_zeros (P:=Try.prog) w 28 3 28 25 i0 (.agg #[.int .i64 0,.int .i64 0,.int .i64 0,.int .i64 0]) .i64 .i64 Try.underlying28 Try.underlying3 hi hz0 n h0 (by omega) (by omega) (by rw [hz2];omega)
  have hcap:=grownCap_ge w n 0 25
  have hcm:grownCap w n 0 25<=maxLen:=grownCap_le_maxLen w n 0 25 (by unfold maxLen;omega)
  have i1:(0:Int) < (n:Int):=by omega
  have HO:=Lib.hid (show (w.drew.alloc (.cells (Builtin.zeroCells (Value.cells (.agg #[.int .i64 0,.int .i64 0,.int .i64 0,.int .i64 0])) n++Builtin.zeroCells (Value.cells (.agg #[.int .i64 0,.int .i64 0,.int .i64 0,.int .i64 0])) (grownCap w n 0 25 - n)) 25)).ownsRow w.heap.size 25 4 (.slice (some ⟨w.heap.size,0,none⟩) 0 (grownCap w n 0 25)) 0 [] from
   World.ownsRow_made w.drew _ _ (Nat.le_refl _) hcm (by simp only [Array.size_append,size_zeroCells];show n * 4+_ * 4=_;omega))
  have HE:=Lib.hid (show Ex w (w.drew.alloc (.cells (Builtin.zeroCells (Value.cells (.agg #[.int .i64 0,.int .i64 0,.int .i64 0,.int .i64 0])) n++Builtin.zeroCells (Value.cells (.agg #[.int .i64 0,.int .i64 0,.int .i64 0,.int .i64 0])) (grownCap w n 0 25 - n)) 25)) from ((Below.refl _ _).drew).alloc (Nat.le_refl _) _)
  have HR:=Lib.hid hr
  clear hr
  generalize hc:grownCap w n 0 25=c at *
  generalize hW:w.drew.alloc (.cells (Builtin.zeroCells (Value.cells (.agg #[.int .i64 0,.int .i64 0,.int .i64 0,.int .i64 0])) n++Builtin.zeroCells (Value.cells (.agg #[.int .i64 0,.int .i64 0,.int .i64 0,.int .i64 0])) (c - n)) 25)=W at *
  generalize hq:w.heap.size=q at *
  unfold maxLen at hcm
  have HQ:=Lib.hid hq
  clear hW hq hc
  go_enter Try.func49,Try.ntmps49
  go_wp2_with (at_builtin;refine Lib.wpList_append_run _ rfl _ _ _ _ rfl _ _ rfl rfl _ _ HR.out ?_)
  go_ret
  exact ⟨_,rfl,by rw [HQ.out];exact HO.out,HE.out⟩
 ·obtain rfl:n=0:=by omega
  go_enter Try.func49,Try.ntmps49
  go_wp2_with fail
  go_ret
  exact ⟨_,rfl,World.ownsRow_nil _ _ _ _,Ex.refl _⟩

def Rows (w:World) (vs:List Value) (xss:List (List lem.LeM)):Prop :=
 vs.length=xss.length/\∀ i v,vs[i]?=some v->RowE lem.encL w v (xss.getD i [])
theorem Rows.ex {w w':World} {vs:List Value} {xss:List (List lem.LeM)} (h:Rows w vs xss) (g:Ex w w'):Rows w' vs xss :=
 ⟨h.1,fun i v hv=>(h.2 i v hv).ex g⟩
theorem Rows.one {w:World} {v:Value} {xs:List lem.LeM} (h:RowE lem.encL w v xs):Rows w [v] [xs] :=
 ⟨rfl,fun i u hu=>by
  cases i with
  | zero=>simp at hu;subst hu;exact h
  | succ i=>simp at hu⟩
theorem Zcq {xss:List (List lem.LeM)} {k:Nat} (h:k < xss.length):(xss.take (k+1)).flatten=(xss.take k).flatten++xss.getD k []:=by
 rw [List.take_add_one,show xss[k]?.toList=[xss.getD k []] by simp [List.getD,h],List.flatten_append]
 simp
theorem Zg8 (xss:List (List lem.LeM)) (k:Nat):(xss.take k).flatten.length<=xss.flatten.length:=by
 conv=>rhs;rw [<- List.take_append_drop k xss,List.flatten_append,List.length_append]
 omega

def RCat (w:World) (xss:List (List lem.LeM)) (s i:Value) (wr:World):Prop :=
 ∃ k:Nat,k<=xss.length/\i=.int .i64 k/\s=.int .i64 ((xss.take k).flatten.length:Nat)/\w=wr
def RCat2 (w:World) (xss:List (List lem.LeM)) (v i:Value) (wr:World):Prop :=
 ∃ k:Nat,k<=xss.length/\i=.int .i64 k/\wr.ownsRow w.heap.size 25 4 v ((xss.take k).flatten.length) (lem.encL.all (xss.take k).flatten)/\Ex w wr

set_option maxHeartbeats 800000 in
theorem concat_any (v : Value) (vs : List Value) (xss : List (List lem.LeM)) (w : World) (hv : RowV w v vs) (hr : Rows w vs xss) (hl : xss.flatten.length <= 1000000) :
    Calls Try.prog 27 #[v] w (Owns w xss.flatten) := by
  obtain ⟨a, cap, rfl, h1, h2, h3⟩ := hv
  have HL := Lib.hid hr.1
  have hll := hr.1
  rw [hll] at h1 h3 ⊢
  have HR := Lib.hid hr
  clear hr hll
  unfold maxLen at h2
  obtain ⟨i0, hi, hz0, hz1, hz2⟩ := info_parts info_el
  go_enter Try.func27, Try.ntmps27
  go_wp2_with fail
  go_loopw [3, 11] (RCat w xss) (fun _ i _ => xss.length - (intOf i).toNat)
  case atStart => exact ⟨0, by omega, rfl, rfl, rfl⟩
  case round =>
    obtain ⟨k, hk, rfl, rfl, rfl⟩ := hrel
    have hfl := Zg8 xss k
    by_cases hlt : k < xss.length
    · obtain ⟨b, off, rfl, hc⟩ := h3 (by omega)
      have hvk : vs[k]? = some (vs.getD k default) := by
        have : k < vs.length := by rw [HL.out]; exact hlt
        simp [List.getD, this]
      have ck := hc k _ hvk
      have hrk := HR.out.2 k _ hvk
      obtain ⟨a', cap', hve, g1, g2⟩ := hrk.len
      rw [hve] at ck
      clear hve hvk hrk
      have i0' : (0 : Int) <= (k : Int) := by omega
      have i1' : (k : Int) < (xss.length : Int) := by omega
      have hfs := Zg8 xss (k + 1)
      rw [Zcq hlt, List.length_append] at hfs
      have HF := Lib.hid (Zcq hlt)
      generalize xss.getD k [] = ys at *
      generalize (xss.take k).flatten = fs at *
      unfold maxLen at g2
      clear hc h3
      go_wp2_with fail
      go_roundw
      case rel => exact ⟨k + 1, by omega, by go_num, by rw [HF.out, List.length_append]; go_num, rfl⟩
      case measure => simp [intOf]; omega
    · have hk : k = xss.length := by omega
      have HK := Lib.hid hk
      clear hk
      rw [HK.out, List.take_length] at hfl ⊢
      generalize hN : xss.flatten.length = N at *
      have HN := Lib.hid hN
      clear hN hfl
      go_wp2_with fail
      refine (Zmo N hl _).mono ?_
      rintro e w1 ⟨u, rfl, hown, g1⟩
      have HRow := Lib.hid (fun hp => h3 hp)
      clear h3
      go_wp2_with fail
      go_loopw [6, 27] (RCat2 w xss) (fun _ i _ => xss.length - (intOf i).toNat)
      case atStart => exact ⟨0, by omega, rfl, hown, g1⟩
      case round =>
        obtain ⟨k, hk, rfl, hown, gk⟩ := hrel
        by_cases hlt : k < xss.length
        · obtain ⟨b, off, rfl, hc⟩ := HRow.out (by omega)
          have hvk : vs[k]? = some (vs.getD k default) := by
            have : k < vs.length := by rw [HL.out]; exact hlt
            simp [List.getD, this]
          have ck := gk.on (hc k _ hvk)
          have hrk := (HR.out.2 k _ hvk).ex gk
          obtain ⟨a', cap', hve, g1, g2⟩ := hrk.len
          rw [hve] at ck hrk
          have HRK := Lib.hid hrk
          clear hve hvk hrk
          have i0' : (0 : Int) <= (k : Int) := by omega
          have i1' : (k : Int) < (xss.length : Int) := by omega
          have hfs := Zg8 xss (k + 1)
          rw [Zcq hlt, List.length_append, HN.out] at hfs
          have HF := Lib.hid (Zcq hlt)
          have HO := Lib.hid hown
          clear hown
          generalize xss.getD k [] = ys at *
          generalize (xss.take k).flatten = fs at *
          unfold maxLen at g2
          clear hc
          have hgs := gk.size
          go_wp2_with (first
            | (at_builtin
               refine wpList_append_rowE _ rfl lem.encL (.tmp 31) (.tmp 32) 28 rfl w.heap.size 25 i0 (.agg #[.int .i64 0, .int .i64 0, .int .i64 0, .int .i64 0]) 4 32 Try.underlying28 hi hz0 hz1 hz2 rfl rfl _ fs.length (lem.encL.all fs) rfl HO.out _ ys rfl HRK.out ?c1 ?c2 w gk ?c3 ?_
               rotate_right
               intro v' w1 hown' gb))
          case c1 => unfold maxLen; omega
          case c2 => omega
          case c3 => exact hgs
          go_wp2_with fail
          go_roundw
          case rel => exact ⟨k + 1, by omega, by go_num, by rw [HF.out, lem.encL.all_append, List.length_append]; exact hown', gb⟩
          case measure => simp [intOf]; omega
        · have hk : k = xss.length := by omega
          have HK := Lib.hid hk
          clear hk
          go_wp2_with fail
          go_ret
          exact ⟨_, rfl, by have := hown; rw [HK.out, List.take_length] at this; exact this, gk⟩

theorem Zie (v u:Value) (xs:List lem.LeM) (w:World) (hv:RowV w v [u]) (hr:RowE lem.encL w u xs) (hl:xs.length<=1000000) :
  Calls Try.prog 27 #[v] w (Owns w xs):=by
 have:=concat_any v [u] [xs] w hv (Rows.one hr) (by simpa using hl)
 simpa using this
theorem concat_at (b:Nat) (u:Value) (xs:List lem.LeM) (w:World) (hc:w.cell? ⟨b,0,none⟩=some u) (hr:RowE lem.encL w u xs) (hl:xs.length<=1000000) :
  Calls Try.prog 27 #[.slice (some ⟨b,0,none⟩) 1 1] w (Owns w xs) :=
 Zie _ u xs w ⟨_,1,rfl,by simp,by simp [maxLen],fun _=>⟨b,0,rfl,fun i v hv=>by
  cases i with
  | zero=>simp at hv;subst hv;simpa using hc
  | succ i=>simp at hv⟩⟩ hr hl

end Go.Proofs.Ytcaclmdkhffegaa.caw
end
section
/- Texts joined. -/
section
/- Package line's Drop, and with's closure, by hand. -/
namespace Go.Proofs.Ytcaclmdkhffegaa.wdr
set_option maxRecDepth 100000
set_option linter.unusedVariables false
set_option linter.unusedSimpArgs false
open Go.RowKit ins lem dlf wlm

theorem Zhq (c:Nat) (fv:Value) (w:World) (a:Option Addr):Calls Try.prog 94 #[.slice a 0 c,fv] w fun e w'=>e=.returned (.int .i64 (-1))/\w=w':=by
 go_enter Try.func94,Try.ntmps94
 go_wp2_with fail
 go_loopw [5,8] (fun _ s8 wr=>s8=.int .i64 0/\w=wr) (fun _ i _=>0)
 case atStart=>exact ⟨rfl,rfl⟩
 case round =>
  obtain ⟨rfl,rfl⟩:=hrel
  go_wp2_with fail
  go_ret
  exact ⟨rfl,rfl⟩
theorem Zid (fv:Value) (w:World):Calls Try.prog 75 #[.slice none 0 0,fv] w fun e w'=>e=.returned (.slice none 0 0)/\w=w':=by
 have hI:=Zhq 0 fv w none
 go_enter Try.func75,Try.ntmps75
 go_wp2_with (go_at_call 94;refine hI.mono ?_;rintro e w' ⟨rfl,rfl⟩)
 go_ret
 exact ⟨rfl,rfl⟩
def OwnsW (w:World) (xs:List LeM) (e:Ending) (w':World):Prop:=∃ v,e=.returned v/\w'.ownsRow w.heap.size 25 4 v xs.length (encL.all xs)/\Ex w w'
theorem Zhv {w w1 W:World} {o:Obj} {b:Nat} (g1:Ex (w.alloc o) w1) (hb:(w.alloc o).heap.size<=b) (hW:w1.grownBy W (some b)):Ex w W:=by
 have h:=Ex.trans (Ex.mk_alloc w o) g1
 have h2:=g1.size
 simp only [World.size_alloc] at hb h2
 exact Below.grown h hW h.size (fun k hk=>by cases hk;omega)
theorem Zn8 (c:Int) (x:LeM) (a:Nat) (W:World) (h1:W.cell? ⟨a,0,none⟩=some (.int .i64 c)) :
  Calls Try.prog 76 (#[lv x]++#[.pointer (some ⟨a,0,none⟩)]) W fun e W'=>e=.returned (.bool (x.1 == c))/\Ex W W':=by
 have ha:a < W.heap.size:=World.block_lt_of_cell? _ _ h1
 have hw:=Ex.mk_alloc W (.cells #[.int .i64 x.1,.int .i64 x.2.1,.int .i64 x.2.2.1,.int .i64 x.2.2.2] 25)
 have k1:=hw.on h1
 have K:=Lib.hid hw
 clear hw h1
 obtain ⟨x0,x1,x2,x3⟩:=x
 simp only [lv] at *
 go_enter Try.func76,Try.ntmps76
 go_wp2_with fail
 all_goals (go_ret;refine ⟨?_,K.out⟩;simp_all)
theorem asked (c f:Int) (x:LeM) (a:Nat) (W:World) (h1:W.cell? ⟨a,0,none⟩=some (.int .i64 c)) (h2:W.cell? ⟨a,2,none⟩=some (.int .i64 f)) :
  Calls Try.prog 96 (#[lv x]++#[.pointer (some ⟨a,0,none⟩)]) W fun e W'=>e=.returned (.bool (isW c f x))/\Ex W W':=by
 have ha:a < W.heap.size:=World.block_lt_of_cell? _ _ h1
 have hw:=Ex.mk_alloc W (.cells #[.int .i64 x.1,.int .i64 x.2.1,.int .i64 x.2.2.1,.int .i64 x.2.2.2] 25)
 have k1:=hw.on h1
 have k2:=hw.on h2
 have K:=Lib.hid hw
 clear hw h1 h2
 obtain ⟨x0,x1,x2,x3⟩:=x
 simp only [lv,isW] at *
 by_cases hc:x0=c
 ·subst hc
  go_enter Try.func96,Try.ntmps96
  go_wp2_with fail
  all_goals (go_ret;refine ⟨?_,K.out⟩;simp_all)
 ·go_enter Try.func96,Try.ntmps96
  go_wp2_with fail
  all_goals (go_ret;refine ⟨?_,K.out⟩;simp_all)
theorem Zmv (cap:Array Value) (w:World):(callFunc 76 cap).run Try.prog w=.ok (.enter 76 cap) w:=by
 simp [go_sem]
theorem callWith (cap:Array Value) (w:World):(callFunc 96 cap).run Try.prog w=.ok (.enter 96 cap) w:=by
 simp [go_sem]
theorem index_with (c f:Int) (a:Nat) (l:Value) (xs:List LeM) (w:World) (hr:RowE encL w l xs) (hn6:xs.length<=1000000) (h1:w.cell? ⟨a,0,none⟩=some (.int .i64 c)) (h2:w.cell? ⟨a,2,none⟩=some (.int .i64 f)) :
  Calls Try.prog 94 #[l,.func (.func 96) #[] #[.pointer (some ⟨a,0,none⟩)]] w fun e w'=>e=.returned (.int .i64 (idx (isW c f) xs))/\Ex w w':=by
 by_cases h0:0 < xs.length
 ·obtain ⟨ad,cap,rfl,_⟩:=hr.len
  obtain ⟨b,off,rfl,_⟩:=hr.addr h0
  exact dlw.index_any (isW c f) _ _ callWith b off xs.length cap xs w hr rfl hn6 (fun W hW x=>asked c f x a W (hW.on h1) (hW.on h2))
 ·obtain rfl:xs=[]:=List.eq_nil_of_length_eq_zero (by omega)
  obtain ⟨ad,cap,rfl,_⟩:=hr.len
  refine (Zhq cap _ w ad).mono ?_
  rintro e w' ⟨rfl,rfl⟩
  exact ⟨rfl,Ex.refl _⟩
set_option maxHeartbeats 2000000 in
theorem Zjs (c:Int) (l:Value) (xs:List LeM) (w:World) (hr:RowE encL w l xs) (hn6:xs.length<=1000000) :
  Calls Try.prog 56 #[l,.int .i64 c] w (OwnsW w (xs.filter fun x=>!(x.1 == c))):=by
 obtain ⟨a,cap,rfl,h1,h2⟩:=hr.len
 have gA:=Ex.mk_alloc w (.cells #[.int .i64 c] 3)
 have gB:=Ex.mk_alloc (w.alloc (.cells #[.int .i64 c] 3)) (.cells #[.slice a xs.length cap] 28)
 have HC:=Lib.hid (caw.concat_at (w.heap.size+1) (.slice a xs.length cap) xs ((w.alloc (.cells #[.int .i64 c] 3)).alloc (.cells #[.slice a xs.length cap] 28)) (by rw [World.cell?_alloc_at _ _ _ _ (by rw [World.size_alloc])];rfl) (hr.ex (Ex.trans gA gB)) hn6)
 have HP:=Lib.hid fun W (hW:Ex (w.alloc (.cells #[.int .i64 c] 3)) W) x=>Zn8 c x w.heap.size W (Zc2 hW 0 _ rfl)
 have GA:=Lib.hid gA
 clear gA gB hr
 go_enter Try.func56,Try.ntmps56
 go_wp2_with (go_at_call 27;refine HC.out.mono ?_;rintro e w1 ⟨v,rfl,hown,g1⟩;have HW:=Lib.hid hown;rcases hown.2 with ⟨rfl,h0⟩ | ⟨b,cap',cur,rfl,hb,hq,hqq⟩ <;> clear hown)
 ·refine (Zid _ _).mono ?_
  rintro e w2 ⟨rfl,rfl⟩
  go_wp2_with fail
  go_ret
  have hx:xs=[]:=List.eq_nil_of_length_eq_zero h0
  subst hx
  exact ⟨_,rfl,World.ownsRow_nil _ _ _ _,Ex.trans GA.out (Ex.trans (Ex.mk_alloc _ _) g1)⟩
 ·refine (dlw.delete_any (fun x=>x.1 == c) _ _ Zmv _ b _ cap' xs _ HW.out hn6 (fun W hW x=>HP.out W (Zhv g1 hb hW) x)).mono ?_
  rintro e w2 ⟨rfl,hown2,gb⟩
  have HO2:=Lib.hid hown2
  clear hown2
  go_wp2_with fail
  go_ret
  exact ⟨_,rfl,Zfb HO2.out (by simp only [World.size_alloc];omega),Ex.trans GA.out (Zhv g1 hb gb)⟩
end Go.Proofs.Ytcaclmdkhffegaa.wdr
end
section
/- Package line's behind, and with where its client does not wait for that file yet, by hand. -/
namespace Go.Proofs.Ytcaclmdkhffegaa.wwi
set_option maxRecDepth 100000
set_option linter.unusedVariables false
set_option linter.unusedSimpArgs false
open Go.RowKit ins lem dlf wdr wlm

theorem own_slice {W:World} {base:Nat} {e:TypeId} {v:Value} {n:Nat} {xs:List Value} (h:W.ownsRow base e 4 v n xs):∃ ad c,v=.slice ad n c:=by
 rcases h.2 with ⟨rfl,rfl⟩ | ⟨_,_,_,rfl,_⟩
 ·exact ⟨_,_,rfl⟩
 ·exact ⟨_,_,rfl⟩
set_option maxHeartbeats 2000000 in
theorem behind_any (x:LeM) (base n:Nat) (v:Value) (ys:List LeM) (w:World) (hown:w.ownsRow base 25 4 v n (encL.all ys)) (hn:n < 4) (hbase:base<=w.heap.size) :
  Calls Try.prog 97 #[v,lv x] w fun e w'=>∃ v',e=.returned v'/\w'.ownsRow base 25 4 v' (n+1) (encL.all (ys++[x]))/\Below base w w':=by
 obtain ⟨i0,hi,hz0,hz1,hz2⟩:=info_parts dlw.info_el
 have g0:=Ex.mk_alloc w (.cells #[.int .i64 x.1,.int .i64 x.2.1,.int .i64 x.2.2.1,.int .i64 x.2.2.2] 25)
 have g1:=Ex.mk_alloc (w.alloc (.cells #[.int .i64 x.1,.int .i64 x.2.1,.int .i64 x.2.2.1,.int .i64 x.2.2.2] 25)) (.cells #[.int .i64 x.1,.int .i64 x.2.1,.int .i64 x.2.2.1,.int .i64 x.2.2.2] 25)
 have hv:RowE encL ((w.alloc (.cells #[.int .i64 x.1,.int .i64 x.2.1,.int .i64 x.2.2.1,.int .i64 x.2.2.2] 25)).alloc (.cells #[.int .i64 x.1,.int .i64 x.2.1,.int .i64 x.2.2.1,.int .i64 x.2.2.2] 25)) (.slice (some ⟨w.heap.size+1,0,none⟩) 1 1) [x]:=RowE.lit_at encL _ [x] _ 1 _ (by rw [World.size_alloc]) rfl (by unfold maxLen;omega) _ rfl
 obtain ⟨ad,c,rfl⟩:=own_slice hown
 have hfar:∀ k,(Value.slice ad n c).ownBlock=some k->base<=k:=fun k hk=>(hown.lt k hk).1
 obtain ⟨v',w',hrun,h1,h2,h3⟩:=Zcn (P:=Try.prog) _ encL base 28 28 25 i0 _ 4 32 Try.underlying28 hi hz0 hz1 hz2 rfl rfl _ n (encL.all ys) (Ze3 hown (Ex.trans g0 g1)) _ [x] hv (by unfold maxLen;simp;omega) (by simp;omega) (by simp only [World.size_alloc];omega)
 have hfin:w'.ownsRow base 25 4 v' (n+1) (encL.all (ys++[x]))/\Below base w w':=by
  refine ⟨by rw [encL.all_append];exact h1,?_⟩
  exact Below.grown (Below.mono (Ex.trans g0 g1) hbase) h2 (by simp only [World.size_alloc];omega) hfar
 have HF:=Lib.hid hfin
 have HR:=Lib.hid hrun
 have hnz:¬ (4:Int)<=(n:Int):=by omega
 clear hrun h1 h2 h3 hv hown g0 g1 hfar hfin
 obtain ⟨x0,x1,x2,x3⟩:=x
 simp only [lv] at *
 go_enter Try.func97,Try.ntmps97
 go_wp2_with (at_builtin;refine Lib.wpList_append_run _ rfl _ _ _ _ rfl _ _ rfl rfl _ _ HR.out ?_)
 go_ret
 exact ⟨_,rfl,HF.out⟩
set_option maxHeartbeats 4000000 in
theorem with_out (x:LeM) (l:Value) (xs:List LeM) (w:World) (hr:RowE encL w l xs) (hn6:xs.length<=1000000) (hi:idx (isW x.1 x.2.2.1) xs=-1) (hl:(dropW xs x.1).length < 4) :
  Calls Try.prog 79 #[l,lv x] w (OwnsW w (dropW xs x.1++[x])):=by
 obtain ⟨a,cap,rfl,_⟩:=hr.len
 have g0:=Ex.mk_alloc w (.cells #[.int .i64 x.1,.int .i64 x.2.1,.int .i64 x.2.2.1,.int .i64 x.2.2.2] 25)
 have HI:=Lib.hid (index_with x.1 x.2.2.1 w.heap.size _ xs _ (hr.ex g0) hn6 (Zc2 (Ex.refl _) 0 _ rfl) (Zc2 (Ex.refl _) 2 _ rfl))
 have HD:=Lib.hid fun W (h:Ex w W)=>Zjs x.1 _ xs W (hr.ex h) hn6
 have HB:=Lib.hid fun W base v (h:W.ownsRow base 25 4 v (dropW xs x.1).length (encL.all (dropW xs x.1))) (hb:base<=W.heap.size)=>behind_any x base _ v _ W h hl hb
 have mixed:Try.prog.follows .mixedOrders=true:=by kernel_rfl
 rw [hi] at HI
 clear hr hi hl hn6
 obtain ⟨x0,x1,x2,x3⟩:=x
 simp only [lv,dropW] at *
 generalize (xs.filter fun x=>!(x.1 == x0))=ys at *
 go_enter Try.func79,Try.ntmps79
 go_wp2_with (go_at_call 94;refine HI.out.mono ?_;rintro e w1 ⟨rfl,g1⟩)
 obtain ⟨k0,k1,k2,k3⟩:=box4 g1
 have G1:=Lib.hid (Ex.trans g0 g1)
 clear g0 g1
 go_region_with (first
  | (go_at_call 56;refine (HD.out _ (by first | exact G1.out | exact Ex.dr G1.out)).mono ?_;rintro e w2 ⟨v,rfl,ho,g2⟩;obtain ⟨ad,c,rfl⟩:=own_slice ho;obtain ⟨m0,m1,m2,m3⟩:=(⟨g2.on k0,g2.on k1,g2.on k2,g2.on k3⟩:_/\_/\_/\_);have HO:=Lib.hid ho;have G2:=Lib.hid g2;clear ho g2)
  | (go_at_call 97;refine (HB.out _ _ _ HO.out (by exact G2.out.size)).mono ?_;rintro e w3 ⟨v',rfl,h3,b3⟩;have H3:=Lib.hid h3;have B3:=Lib.hid b3;clear h3 b3))
 all_goals
  go_wp2_with fail
  go_ret
  have hs:=G1.out.size
  refine ⟨_,rfl,?_,Below.trans (Ex.dr G1.out) (Below.trans (Below.mono G2.out (by simpa using hs)) (Below.mono B3.out (by simpa using hs)))⟩
  rw [List.length_append]
  exact Zfb H3.out (by simpa using hs)
end Go.Proofs.Ytcaclmdkhffegaa.wwi
end
end
