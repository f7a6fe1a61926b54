/- Contracts of package disk, seventh part: what is guarded, and reading. -/
import Derived.Test.YtegfdigljpnhcaaDsk6
import Derived.Test.YtegfdigljpnhcaaDsk4
namespace Go.Proofs.Ytegfdigljpnhcaa.dsk
set_option maxRecDepth 100000
open Go.RowKit

theorem OwnD.form {base : Nat} {w : World} {v : Value} {d : D} (h : OwnD base w v d) : ∃ al cl aw cw, v = .agg #[.slice al d.last.length cl, .slice aw d.wait.length cw, .int .i64 (d.arm : Int), .bool d.down] := by
  obtain ⟨vl, vw, rfl, h1, h2⟩ := h
  obtain ⟨al, cl, rfl, _, _⟩ := (RowE.of_own (E := encS) h1).1.len
  obtain ⟨aw, cw, rfl, _, _⟩ := (RowE.of_own (E := encP) h2).1.len
  exact ⟨al, cl, aw, cw, rfl⟩
theorem OwnD.ex {base : Nat} {w w' : World} {v : Value} {d : D} (h : OwnD base w v d) (g : Ex w w') : OwnD base w' v d := by
  obtain ⟨vl, vw, rfl, h1, h2⟩ := h
  exact ⟨vl, vw, rfl, own_ex h1 g, own_ex h2 g⟩
theorem OwnD.mono {base base' : Nat} {w : World} {v : Value} {d : D} (h : OwnD base w v d) (hb : base' ≤ base) : OwnD base' w v d := by
  obtain ⟨vl, vw, rfl, h1, h2⟩ := h
  exact ⟨vl, vw, rfl, own_mono h1 hb, own_mono h2 hb⟩
theorem OwnD.st {base : Nat} {w : World} {v : Value} {d : D} (h : OwnD base w v d) {p : Addr} (hp : p.block < base) (u : Value) : OwnD base (w.setCell p u) v d := by
  obtain ⟨vl, vw, rfl, h1, h2⟩ := h
  exact ⟨vl, vw, rfl, ownsRow_setCell_below h1 hp u, ownsRow_setCell_below h2 hp u⟩

/-- What a guarded call answers: what the inner one answers, and yes; or nought and no where it panics. -/
def Inner (R : Value → Bool → World → Prop) (zero : Value) (e : Ending) (w' : World) : Prop :=
  match e with
  | .returned v => R v true w'
  | .panicked [{ v := .iface _ _, recovered := false, goexit := false }] => R zero false w'
  | _ => False
def Outer (R : Value → Bool → World → Prop) (e : Ending) (w' : World) : Prop := ∃ v b, e = .returned (.tuple #[v, .bool b]) ∧ R v b w'

theorem rec_panic_str (u : TypeId) (pv : Value) (older : List PanicEntry) (w : World) :
    CallsD Try.prog 95 #[] (.panicking ({ v := .iface u pv, recovered := false } :: older)) w fun e u' w' =>
      e = .returned (.tuple #[]) ∧ u' = .panicking ({ v := .iface u pv, recovered := true } :: older) ∧ w' = w := by
  refine callsD_of_wpS Try.func95 rfl fun c₀ cs hu => ?_
  apply wpS_region
  simp [wpOpsS, go_sem, recoverD, hu, Try.ntmps95, bodyPostS, results, Try.results95]
theorem rec_idle_str (w : World) :
    CallsD Try.prog 95 #[] .returning w fun e u' w' => e = .returned (.tuple #[]) ∧ u' = .returning ∧ w' = w := by
  refine callsD_of_wpS Try.func95 rfl fun c₀ cs hu => ?_
  apply wpS_region
  simp [wpOpsS, go_sem, recoverD, hu, Try.ntmps95, bodyPostS, results, Try.results95]
  cases c₀
  simp_all
theorem rec_panic_disk (u : TypeId) (pv : Value) (older : List PanicEntry) (w : World) :
    CallsD Try.prog 94 #[] (.panicking ({ v := .iface u pv, recovered := false } :: older)) w fun e u' w' =>
      e = .returned (.tuple #[]) ∧ u' = .panicking ({ v := .iface u pv, recovered := true } :: older) ∧ w' = w := by
  refine callsD_of_wpS Try.func94 rfl fun c₀ cs hu => ?_
  apply wpS_region
  simp [wpOpsS, go_sem, recoverD, hu, Try.ntmps94, bodyPostS, results, Try.results94]
theorem rec_idle_disk (w : World) :
    CallsD Try.prog 94 #[] .returning w fun e u' w' => e = .returned (.tuple #[]) ∧ u' = .returning ∧ w' = w := by
  refine callsD_of_wpS Try.func94 rfl fun c₀ cs hu => ?_
  apply wpS_region
  simp [wpOpsS, go_sem, recoverD, hu, Try.ntmps94, bodyPostS, results, Try.results94]
  cases c₀
  simp_all

theorem orNo_str (fid : FuncId) (cap : Array Value) (w : World) (R : Value → Bool → World → Prop) (hc : ∀ w, (callFunc fid cap).run Try.prog w = .ok (.enter fid cap) w)
    (h : Calls Try.prog fid cap w (Inner R (.string ⟨#[]⟩))) :
    Calls Try.prog 91 #[.func (.func fid) #[] cap] w (Outer R) := by
  have H := Lib.hid h
  clear h
  go_enter_defers Try.func91, Try.ntmps91
  go_wp2_with fail
  refine H.out.mono ?_
  intro e w' he
  unfold Inner at he
  split at he
  · go_wp2_with fail
    refine leaves_cons (f := 95) (args := #[]) (by simp) (by simp [go_sem]) ?_
    refine (rec_idle_str _).mono ?_
    rintro e u' w'' ⟨rfl, rfl, rfl⟩
    simp [Leaves, settle, results, Try.results91, go_sem, Outer]
    exact he
  · refine leaves_cons (f := 95) (args := #[]) (by simp) (by simp [go_sem]) ?_
    refine (rec_panic_str _ _ _ _).mono ?_
    rintro e u' w'' ⟨rfl, rfl, rfl⟩
    simp [Leaves, settle, results, Try.results91, go_sem, Outer]
    exact he
  · exact he.elim

def Zero : Value := .agg #[.slice none 0 0, .slice none 0 0, .int .i64 0, .bool false]
/-- It tells a disk of the call's own. -/
def TellsD (w : World) (d : D) (e : Ending) (w' : World) : Prop := ∃ v, e = .returned v ∧ OwnD w.heap.size w' v d ∧ Ex w w'
def TellsDB (w : World) (d : D) (b : Bool) (e : Ending) (w' : World) : Prop := ∃ v, e = .returned (.tuple #[v, .bool b]) ∧ OwnD w.heap.size w' v d ∧ Ex w w'
def TellsNo (w : World) (e : Ending) (w' : World) : Prop := e = .returned (.tuple #[Zero, .bool false]) ∧ Ex w w'

theorem orNo_disk_ok (fid : FuncId) (cap : Array Value) (w : World) (d : D) (hc : ∀ w, (callFunc fid cap).run Try.prog w = .ok (.enter fid cap) w)
    (h : ∀ w1, Ex w w1 → Calls Try.prog fid cap w1 (TellsD w1 d)) :
    Calls Try.prog 86 #[.func (.func fid) #[] cap] w (TellsDB w d true) := by
  have H := Lib.hid h
  clear h
  go_enter_defers Try.func86, Try.ntmps86
  go_wp2_with fail
  refine (H.out _ (Ex.mk_alloc _ _)).mono ?_
  rintro e w' ⟨v, rfl, ho, g⟩
  have G := Lib.hid (Ex.trans (Ex.mk_alloc _ _) g)
  have HO := Lib.hid ho
  obtain ⟨al, cl, aw, cw, rfl⟩ := ho.form
  obtain ⟨c0, c1, c2, c3⟩ := box4 g
  have f0 := box_frozen g 0
  have f1 := box_frozen g 1
  have f2 := box_frozen g 2
  have f3 := box_frozen g 3
  clear ho g
  go_wp2_with fail
  refine leaves_cons (f := 94) (args := #[]) (by simp) (by simp [go_sem]) ?_
  refine (rec_idle_disk _).mono ?_
  rintro e u' w'' ⟨rfl, rfl, rfl⟩
  simp [Leaves, settle, results, Try.results86, go_sem, c0, c1, c2, c3]
  refine ⟨_, rfl, OwnD.mono (base := (w.alloc (.cells #[.slice none 0 0, .slice none 0 0, .int .i64 0, .bool false] 28)).heap.size) ?_ (by simp), ?_⟩
  · repeat (refine OwnD.st ?_ (by simp) _)
    exact HO.out
  · repeat (refine Ex.st ?_ (by simp) _)
    exact G.out

theorem orNo_disk_no (fid : FuncId) (cap : Array Value) (w : World) (hc : ∀ w, (callFunc fid cap).run Try.prog w = .ok (.enter fid cap) w)
    (h : ∀ w1, Ex w w1 → Calls Try.prog fid cap w1 (BoomE w1)) :
    Calls Try.prog 86 #[.func (.func fid) #[] cap] w (TellsNo w) := by
  have H := Lib.hid h
  clear h
  go_enter_defers Try.func86, Try.ntmps86
  go_wp2_with fail
  refine (H.out _ (Ex.mk_alloc _ _)).mono ?_
  rintro e w' ⟨u, v, rfl, g⟩
  have G := Lib.hid (Ex.trans (Ex.mk_alloc _ _) g)
  obtain ⟨c0, c1, c2, c3⟩ := box4 g
  clear g
  refine leaves_cons (f := 94) (args := #[]) (by simp) (by simp [go_sem]) ?_
  refine (rec_panic_disk _ _ _ _).mono ?_
  rintro e u' w'' ⟨rfl, rfl, rfl⟩
  simp [Leaves, settle, results, Try.results86, go_sem, c0, c1, c2, c3]
  exact ⟨rfl, G.out⟩

end Go.Proofs.Ytegfdigljpnhcaa.dsk
