/- slices.Repeat of one text; New. -/
import Derived.Test.YtfcdbknmajfkaaaDsk9
import Derived.Test.YtfcdbknmajfkaaaShelf
import Derived.Laws.CopyOwn
import Derived.Deep.RegionLaw
import Derived.OpenShut
namespace Go.Proofs.Ytfcdbknmajfkaaa.dsk
set_option maxRecDepth 100000
open Go.RowKit

def cells (s : ByteArray) (n k : Nat) : List Value := List.replicate k (.string s) ++ List.replicate (n - k) (.string ⟨#[]⟩)
theorem cells_length (s : ByteArray) (n k : Nat) (h : k ≤ n) : (cells s n k).length = n := by simp [cells]; omega
theorem cells_zero (s : ByteArray) (n : Nat) : cells s n 0 = List.replicate n (.string ⟨#[]⟩) := by simp [cells]
theorem cells_all (s : ByteArray) (n : Nat) : cells s n n = List.replicate n (.string s) := by simp [cells]
theorem cells_get (s : ByteArray) (n k j : Nat) (h : j < k) : (cells s n k)[j]? = some (.string s) := by
  simp only [cells]
  rw [List.getElem?_append_left (by simpa using h)]
  simp [h]
theorem cells_splice (s : ByteArray) (n k m : Nat) (h : k + m ≤ n) : splice (cells s n k) k (List.replicate m (.string s)) = cells s n (k + m) := by
  simp only [splice, cells, List.length_replicate]
  rw [List.take_append_of_le_length (by simp), List.take_of_length_le (by simp), List.drop_append, List.drop_of_length_le (by simp), List.length_replicate, List.drop_replicate, List.nil_append, show n - k - (k + m - k) = n - (k + m) by omega, ← List.append_assoc, List.replicate_append_replicate]

theorem mul_run (n : Nat) (hn : n ≤ 64) (w : World) : Calls Try.prog 100 #[.int .u64 1, .int .u64 (n : Int)] w fun e w' => e = .returned (.tuple #[.int .u64 0, .int .u64 (n : Int)]) ∧ w = w' := by
  refine (Try.bits_Mul 1 n (by omega) (by omega) w).mono ?_
  rintro e w' ⟨rfl, rfl⟩
  rw [Nat.one_mul, Nat.div_eq_of_lt (by omega), Nat.mod_eq_of_lt (by omega)]
  exact ⟨rfl, rfl⟩
theorem info_str : (Try.prog.info? 9).map (fun i => (i.zero, i.size, i.bytes)) = some (some (.string ⟨#[]⟩), 1, 16) := by kernel_rfl
theorem make_strs (n : Nat) (hn : n ≤ 64) (w : World) : (Instr.makeSlice 25 (.int .i64 (n : Int)) (.int .i64 (n : Int))).run Try.prog w = .ok (.slice (some ⟨w.heap.size, 0, none⟩) n n) (w.alloc (.cells (cells ⟨#[]⟩ n 0).toArray 9)) := by
  obtain ⟨i0, hi, hz0, hz1, hz2⟩ := info_parts info_str
  have hr := run_make (P := Try.prog) w 25 9 i0 _ Try.underlying25 hi hz0 .i64 .i64 n n (by omega) (Int.le_refl _) (by rw [hz2]; omega) (by omega)
  simp only [Int.toNat_natCast, hz1] at hr
  rw [hr]
  have : madeCells (Value.cells (.string ⟨#[]⟩)) (n * 1) = (cells ⟨#[]⟩ n 0).toArray := by
    apply Array.toList_inj.1
    rw [List.toList_toArray, cells_zero, Nat.mul_one]
    exact toList_madeCells_one _ _
  rw [this]

theorem size_str : (Try.prog.info? 9).map (·.size) = some 1 := by kernel_rfl
theorem copy_run (w0 wr : World) (g n k m : Nat) (s : ByteArray) (hk : k ≤ n) (hm : m = min k (n - k)) (hcur : wr.heap[g]? = some (.cells (cells s n k).toArray 9 (0, 0))) (hb : Below w0.heap.size w0 wr) (hg : w0.heap.size ≤ g) :
    ∃ w2, (Builtin.copy_ #[25, 25] 3 #[.slice (some ⟨g, k, none⟩) (n - k) (n - k), .slice (some ⟨g, 0, none⟩) k n]).run Try.prog wr.drew = .ok (.int .i64 (m : Int)) w2 ∧
      w2.heap[g]? = some (.cells (cells s n (k + m)).toArray 9 (0, 0)) ∧ Ex w0 w2 := by
  have hcur' : wr.drew.heap[g]? = some (.cells (cells s n k).toArray 9 (0, 0)) := hcur
  have hr := run_copy_row (P := Try.prog) wr.drew 25 25 3 9 g k (n - k) (n - k) ⟨g, 0, none⟩ k n (cells s n k).toArray 9 (List.replicate m (.string s)) Try.underlying25 size_str hcur'
    (by rw [List.length_replicate]; exact hm)
    (fun j v hv => by
      have hj : j < m := by
        have := (List.getElem?_eq_some_iff.1 hv).1
        simpa using this
      have hv' : v = .string s := by
        rw [List.getElem?_replicate, if_pos hj] at hv
        exact (Option.some.inj hv).symm
      subst hv'
      have hadd : (⟨g, 0, none⟩ : Addr).add j = ⟨g, j, none⟩ := by unfold Addr.add; split <;> simp_all
      rw [hadd, cell_of_row wr.drew g j _ _ _ hcur', List.getElem?_toArray]
      exact cells_get s n k j (by omega))
    (by simp only [List.size_toArray]; rw [List.length_replicate, cells_length _ _ _ hk]; omega)
    (by intro v hv; rw [(List.mem_replicate.1 hv).2]; rfl)
  rw [List.length_replicate, List.toList_toArray] at hr
  refine ⟨_, hr, ?_, below_setRow (Below.drew hb) hg _⟩
  rw [setRow_heap _ _ _ _ _ _ hcur']
  have := cells_splice s n k m (by omega)
  unfold splice at this
  rw [List.length_replicate, ← List.append_assoc] at this
  rw [this]

theorem all_replicate (s : ByteArray) (n : Nat) : encS.all (List.replicate n s) = List.replicate n (.string s) := by
  induction n with
  | zero => rfl
  | succ n ih => rw [List.replicate_succ, Enc.all_cons, ih]; rfl
theorem own_cells (s : ByteArray) (n base : Nat) (w : World) (g : Nat) (hn : n ≤ 64) (hb : base ≤ g) (h : w.heap[g]? = some (.cells (cells s n n).toArray 9 (0, 0))) :
    w.ownsRow base 9 1 (.slice (some ⟨g, 0, none⟩) n n) n (encS.all (List.replicate n s)) := by
  rw [all_replicate]
  refine ⟨by simp, .inr ⟨g, n, _, rfl, hb, h, Nat.le_refl _, by unfold maxLen; omega, ?_, ?_⟩⟩
  · simp only [List.size_toArray]
    rw [cells_length _ _ _ (Nat.le_refl _), Nat.mul_one]
  · rw [List.toList_toArray, cells_all, Nat.mul_one, List.take_of_length_le (by simp)]
def RRep (W : World) (g n : Nat) (s : ByteArray) (i : Value) (wr : World) : Prop :=
  ∃ k : Nat, 1 ≤ k ∧ k ≤ n ∧ i = .int .i64 k ∧ Hid (wr.heap[g]? = some (.cells (cells s n k).toArray 9 (0, 0))) ∧ Ex W wr

set_option maxRecDepth 100000 in
set_option maxHeartbeats 1600000 in
theorem repeat_one (v : Value) (s : ByteArray) (n : Nat) (w : World) (h0 : 1 ≤ n) (hn : n ≤ 64) (hr : RowE encS w v [s]) :
    Calls Try.prog 50 #[v, .int .i64 (n : Int)] w (catS.Owns w (List.replicate n s)) := by
  obtain ⟨a, cap, rfl, h1, h2⟩ := hr.len
  obtain ⟨b, off, rfl, hb⟩ := hr.addr (by simp)
  have hc := hr.at (i := 0) (j := 0) (x := s) rfl rfl
  simp only [encS, Nat.mul_one, Nat.add_zero] at hc
  have hmk := make_strs n hn w
  have hg : (w.alloc (.cells (cells ⟨#[]⟩ n 0).toArray 9)).heap[w.heap.size]? = some (.cells (cells s n 0).toArray 9 (0, 0)) := by
    rw [show cells s n 0 = cells ⟨#[]⟩ n 0 by rw [cells_zero, cells_zero]]
    exact heap_alloc_new w _
  have hi : (1 : Int) ≤ (n : Int) := by omega
  simp only [List.length_cons, List.length_nil, Nat.reduceAdd] at h1 ⊢
  unfold maxLen at h2
  have HMK := Lib.hid hmk
  clear hr hmk
  go_enter Try.func50, Try.ntmps50
  go_wp2_with fail
  refine (mul_run n hn w).mono ?_
  rintro e w' ⟨rfl, rfl⟩
  have hmk := HMK.out
  have HC := Lib.hid ((Ex.mk_alloc w (.cells (cells ⟨#[]⟩ n 0).toArray 9)).on hc)
  have HG := Lib.hid hg
  have HS0 : Hid (∀ (j : Nat) (v : Value), [Value.string s][j]? = some v → (w.alloc (.cells (cells ⟨#[]⟩ n 0).toArray 9)).cell? ((⟨b, off, none⟩ : Addr).add j) = some v) := Lib.hid (fun j v hv => by
    cases j with
    | zero =>
      simp at hv; subst hv
      have e : (⟨b, off, none⟩ : Addr).add 0 = ⟨b, off, none⟩ := by simp [Addr.add]
      rw [e]; exact HC.out
    | succ j => simp at hv)
  clear hc hg
  go_wp2_with (first
    | (refine wpList_copy_splice (o := ⟨some 33, _, _, _, _, _⟩) rfl (.tmp 31) (.tmp 32) 25 25 rfl 9 Try.underlying25 size_str (some ⟨w.heap.size, 0, none⟩) (some ⟨b, off, none⟩) n n 1 cap rfl rfl w.heap.size 0 (cells s n 0) 9 HG.out [.string s] ?c1 (fun _ => ⟨rfl, ⟨b, off, none⟩, rfl, HS0.out⟩) ?c3 ?c4 w.heap.size w ((Below.refl _ _).alloc (Nat.le_refl _) _) (Nat.le_refl _) ?_
       rotate_right
       intro w1 hw1 hb1
       rw [show splice (cells s n 0) 0 [Value.string s] = cells s n 1 by have := cells_splice s n 0 1 (by omega); simpa using this] at hw1
       simp only [List.length_cons, List.length_nil, Nat.reduceAdd]
       clear hmk))
  case c1 => show 1 = min 1 n; omega
  case c3 => rw [cells_length _ _ _ (by omega)]; simp; omega
  case c4 => intro v hv; simp at hv; subst hv; rfl
  go_loopw [8] (RRep w w.heap.size n s) (fun i _ => n - (intOf i).toNat)
  case atStart => exact ⟨1, by omega, h0, rfl, hw1, hb1⟩
  case round =>
    obtain ⟨k, hk1, hkn, rfl, hcur, gk⟩ := hrel
    by_cases hlt : k < n
    · have i1 : (k : Int) < (n : Int) := by omega
      have i0 : (0 : Int) ≤ (k : Int) := by omega
      obtain ⟨m, hm⟩ : ∃ m, m = min k (n - k) := ⟨_, rfl⟩
      have hm1 : 1 ≤ m := by omega
      have hmk : m ≤ k := by omega
      have hmn : k + m ≤ n := by omega
      have HM := Lib.hid hm
      obtain ⟨w2, hcopy, hw2, hb2⟩ := copy_run w wr w.heap.size n k m s hkn HM.out hcur.out gk (Nat.le_refl _)
      have HW2 := Lib.hid hw2
      clear hw2
      have hne : ¬ n = k := by omega
      have j1 : (k : Int) + (m : Int) ≤ 64 := by omega
      have j0 : (0 : Int) ≤ (k : Int) + (m : Int) := by omega
      go_wp2_with fail
      go_region
      all_goals
        go_wp2_with fail
        go_roundw
        case rel => exact ⟨k + m, by omega, hmn, vint (by have := HM.out; omega), HW2, hb2⟩
        case measure => simp [intOf]; have := HM.out; omega
    · obtain rfl : k = n := by omega
      have HO := Lib.hid (own_cells s k w.heap.size wr w.heap.size hn (Nat.le_refl _) hcur.out)
      clear hcur
      go_wp2_with fail
      go_ret
      exact ⟨_, rfl, by rw [List.length_replicate]; exact HO.out, gk⟩

theorem noughts_run (w : World) : Calls Try.prog 49 #[.string ⟨#[0]⟩, .int .i64 32] w (TellsV w (.string noughts)) := by
  refine (Try.strings_Repeat ⟨#[0]⟩ 32 w (by omega) (by decide)).mono ?_
  rintro e w' ⟨rfl, g⟩
  exact ⟨by rw [show (⟨#[0]⟩ : ByteArray).data.toList = List.replicate 1 0 from rfl, Lib.repeatL_replicate]; rfl, g⟩

set_option maxRecDepth 100000 in
set_option maxHeartbeats 1000000 in
theorem new_any (n : Int) (w : World) : Calls Try.prog 13 #[.int .i64 n] w (TellsD w (newD n)) := by
  by_cases h1 : n < 1
  · have hd : newD n = ⟨[], [], 0, false⟩ := by unfold newD; rw [if_neg (by omega)]
    rw [hd]
    have d1 : decide (n < 1) = true := decide_eq_true h1
    clear hd
    go_enter Try.func13, Try.ntmps13
    go_wp2_with fail
    exact bodyPost_ret (v := .agg #[.slice none 0 0, .slice none 0 0, .int .i64 0, .bool false]) (by simp [results, Try.results13, go_sem]) rfl ⟨_, rfl, ⟨_, _, rfl, World.ownsRow_nil _ _ _ _, World.ownsRow_nil _ _ _ _⟩, Ex.mk_alloc _ _⟩
  · have d1 : decide (n < 1) = false := decide_eq_false h1
    by_cases h2 : 64 < n
    · have hd : newD n = ⟨[], [], 0, false⟩ := by unfold newD; rw [if_neg (by omega)]
      rw [hd]
      clear hd
      go_enter Try.func13, Try.ntmps13
      go_wp2_with fail
      exact bodyPost_ret (v := .agg #[.slice none 0 0, .slice none 0 0, .int .i64 0, .bool false]) (by simp [results, Try.results13, go_sem]) rfl ⟨_, rfl, ⟨_, _, rfl, World.ownsRow_nil _ _ _ _, World.ownsRow_nil _ _ _ _⟩, Ex.mk_alloc _ _⟩
    · obtain ⟨m, rfl⟩ : ∃ m : Nat, n = (m : Int) := ⟨n.toNat, by omega⟩
      have hd : newD (m : Int) = ⟨List.replicate m noughts, [], 0, false⟩ := by unfold newD; rw [if_pos (by omega)]; simp
      rw [hd]
      have hm1 : 1 ≤ m := by omega
      have hm2 : m ≤ 64 := by omega
      clear hd
      go_enter Try.func13, Try.ntmps13
      go_wp2_with fail
      refine (noughts_run _).mono ?_
      rintro e w1 ⟨rfl, g1⟩
      have HX := Lib.hid (fun (wr : World) (g : Ex w1 wr) => (⟨box4 (Ex.trans g1 g), fun i => box_frozen (Ex.trans g1 g) i⟩ : (wr.cell? ⟨w.heap.size, 0, none⟩ = some (.slice none 0 0) ∧ wr.cell? ⟨w.heap.size, 1, none⟩ = some (.slice none 0 0) ∧ wr.cell? ⟨w.heap.size, 2, none⟩ = some (.int .i64 0) ∧ wr.cell? ⟨w.heap.size, 3, none⟩ = some (.bool false)) ∧ ∀ i, wr.frozen? ⟨w.heap.size, i, none⟩ = false))
      have HZ := Lib.hid (show w.heap.size + 1 ≤ w1.heap.size by have := g1.size; simp at this; omega)
      have G1 := Lib.hid (Ex.trans (Ex.mk_alloc _ _) g1)
      clear g1
      go_wp2_with fail
      refine (repeat_one _ noughts m _ hm1 hm2 (RowE.lit_at encS _ [noughts] _ 1 _ rfl rfl (by simp [maxLen]) _ rfl)).mono ?_
      rintro e w2 ⟨u, rfl, ho, g2⟩
      obtain ⟨ua, uc, rfl, _, _⟩ := (RowE.of_own (E := encS) ho).1.len
      have G12 := Lib.hid (Ex.trans (Ex.mk_alloc _ _) g2)
      obtain ⟨⟨r0, r1, r2, r3⟩, rf⟩ := HX.out _ G12.out
      have rf0 := rf 0
      have rf1 := rf 1
      have rf2 := rf 2
      have rf3 := rf 3
      have HO := Lib.hid (own_mono (base' := w.heap.size + 1) ho (by have := HZ.out; simp; omega))
      have G2 := Lib.hid (Ex.trans G1.out G12.out)
      clear ho g2 rf
      go_wp2_with fail
      refine bodyPost_ret (v := .agg #[.slice ua (List.replicate m noughts).length uc, .slice none 0 0, .int .i64 0, .bool false]) (by simp [results, Try.results13, go_sem, r0, r1, r2, r3]) rfl ⟨_, rfl, OwnD.mono (base := w.heap.size + 1) ⟨.slice ua (List.replicate m noughts).length uc, .slice none 0 0, rfl, ?_, World.ownsRow_nil _ _ _ _⟩ (by omega), ?_⟩
      · repeat with_reducible (refine ownsRow_setCell_below ?_ (by dsimp only; omega) _)
        exact HO.out
      · repeat with_reducible (refine Ex.st ?_ (by dsimp only; omega) _)
        exact G2.out

end Go.Proofs.Ytfcdbknmajfkaaa.dsk
