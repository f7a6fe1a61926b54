/- Texts joined. -/
import Derived.Test.YtpnegheknjeljaaGreatChecked
import Derived.Test.YtpnegheknjeljaaGreatCatS
import Derived.Test.YtpnegheknjeljaaGreatCatP
import Derived.OpenShut
import Derived.Defers
import Derived.Recover
import Derived.WalkLawsBesides
import Derived.KernelRfl
import Derived.Laws.IdiomStrings
import Derived.Outline
import Derived.Deep.QuietTactic
import Derived.BigQuiet
import Derived.Handy
section
/- Contracts of package disk: its small functions. -/
namespace Go.Proofs.YtpnegheknjeljaaGreat.dsk
set_option maxRecDepth 100000
open Go.RowKit

def BoomE (w:World) (e:Ending) (w':World):Prop:=∃ u v,e=.panicked [{ v:=.iface u v,recovered:=false }]/\Ex w w'
def Zmv (w:World) (v:Value) (e:Ending) (w':World):Prop:=e=.returned v/\Ex w w'

section
variable (al aw : Option Addr) (n cl m cw : Nat) (arm : Int) (down : Bool)

theorem Zdo (w:World):Calls Tryz.prog 89 #[.agg #[.slice al n cl,.slice aw m cw,.int .i64 arm,.bool false]] w (Zmv w (.tuple #[])):=by
 go_enter Tryz.func89,Tryz.ntmps89
 go_wp2_with fail
 go_end0
 exact ⟨rfl,(Below.refl _ _).alloc (Nat.le_refl _) _⟩
theorem Zkx (w:World):Calls Tryz.prog 89 #[.agg #[.slice al n cl,.slice aw m cw,.int .i64 arm,.bool true]] w (BoomE w):=by
 go_enter Tryz.func89,Tryz.ntmps89
 go_wp2_with fail
 exact ⟨rfl,_,_,rfl,(Below.refl _ _).alloc (Nat.le_refl _) _⟩

def inN (n:Nat) (i:Int):Bool:=decide (0<=i/\i < (n:Int))
theorem inN_yes {n:Nat} {i:Int} (h:inN n i=true):0<=i/\i < (n:Int):=by simpa [inN] using h

theorem Zqg (i:Int) (w:World):Calls Tryz.prog 130 #[.agg #[.slice al n cl,.slice aw m cw,.int .i64 arm,.bool down],.int .i64 i] w (Zmv w (.bool (inN n i))):=by
 by_cases h0:0<=i
 ·have e:inN n i=decide (i < (n:Int)):=by simp [inN,h0]
  rw [e]
  go_enter Tryz.func130,Tryz.ntmps130
  go_wp2_with fail
  go_ret
  exact ⟨rfl,(Below.refl _ _).alloc (Nat.le_refl _) _⟩
 ·have e:inN n i=false:=by simp [inN,h0]
  rw [e]
  have hd:decide (0<=i)=false:=by simpa using h0
  clear e
  go_enter Tryz.func130,Tryz.ntmps130
  go_wp2_with fail
  go_ret
  exact ⟨rfl,(Below.refl _ _).alloc (Nat.le_refl _) _⟩

theorem Zim (i:Int) (w:World) (h:inN n i=true):Calls Tryz.prog 90 #[.agg #[.slice al n cl,.slice aw m cw,.int .i64 arm,.bool down],.int .i64 i] w (Zmv w (.tuple #[])):=by
 have H:=Zqg al aw n cl m cw arm down i
 rw [h] at H
 have HH:=Lib.hid H
 clear H h
 go_enter Tryz.func90,Tryz.ntmps90
 go_wp2_with fail
 refine (HH.out _).mono ?_
 rintro e w' ⟨rfl,g⟩
 go_wp2_with fail
 go_end0
 exact ⟨rfl,Ex.trans ((Below.refl _ _).alloc (Nat.le_refl _) _) g⟩
theorem mustHave_no (i:Int) (w:World) (h:inN n i=false):Calls Tryz.prog 90 #[.agg #[.slice al n cl,.slice aw m cw,.int .i64 arm,.bool down],.int .i64 i] w (BoomE w):=by
 have H:=Zqg al aw n cl m cw arm down i
 rw [h] at H
 have HH:=Lib.hid H
 clear H h
 go_enter Tryz.func90,Tryz.ntmps90
 go_wp2_with fail
 refine (HH.out _).mono ?_
 rintro e w' ⟨rfl,g⟩
 go_wp2_with fail
 exact ⟨rfl,_,_,rfl,Ex.trans ((Below.refl _ _).alloc (Nat.le_refl _) _) g⟩
end

theorem mustFill_yes (b:ByteArray) (w:World) (h:b.size=32):Calls Tryz.prog 91 #[.string b] w fun e w'=>e=.returned (.tuple #[])/\w=w':=by
 have hd:((b.size:Int) != 32)=false:=by rw [h];rfl
 clear h
 go_enter Tryz.func91,Tryz.ntmps91
 go_wp2_with fail
 go_end0
 exact ⟨rfl,rfl⟩
theorem mustFill_no (b:ByteArray) (w:World) (h:¬ b.size=32):Calls Tryz.prog 91 #[.string b] w (BoomE w):=by
 have hd:((b.size:Int) != 32)=true:=by simp;omega
 clear h
 go_enter Tryz.func91,Tryz.ntmps91
 go_wp2_with fail
 exact ⟨rfl,_,_,rfl,Ex.refl _⟩

theorem whole_any (k:Int) (a b:ByteArray) (w:World):Calls Tryz.prog 96 #[.int .i64 k,.string a,.string b] w fun e w'=>e=.returned (.string b)/\w=w':=by
 go_enter Tryz.func96,Tryz.ntmps96
 go_wp2_with fail
 go_ret
 exact ⟨rfl,rfl⟩

end Go.Proofs.YtpnegheknjeljaaGreat.dsk
end
section
/- Contracts of package disk, second part: what lasts of what waited. -/
namespace Go.Proofs.YtpnegheknjeljaaGreat.dsk
set_option maxRecDepth 100000
open Go.RowKit

theorem ext_none (a:ByteArray) (n:Nat):a.extract n n=ByteArray.empty:=by
 apply ByteArray.ext
 simp
theorem ext_all (a:ByteArray) (ha:a.size=32):a.extract 0 32=a:=by
 apply ByteArray.ext
 rw [<- ha]
 simp
theorem putAt_full (a b:ByteArray) (hb:b.size=32):putAt b a 32=b:=by
 unfold putAt
 rw [ext_none,ext_all b hb,ByteArray.append_empty]

end Go.Proofs.YtpnegheknjeljaaGreat.dsk
end
