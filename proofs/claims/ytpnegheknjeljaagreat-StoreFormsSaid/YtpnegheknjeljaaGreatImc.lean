/- What is cut into sectors (package image): slices.Chunk and what it goes through. -/
import Derived.Test.YtpnegheknjeljaaGreatChecked
import Derived.Test.YtpnegheknjeljaaGreatRow
import Derived.OpenShut
import Derived.Defers
import Derived.Recover
import Derived.WalkLawsBesides
import Derived.KernelRfl
import Derived.Laws.BytesString
import Derived.Laws.IdiomStrings
import Derived.Lib.AppendZeros
import Derived.Lib.AppendZerosOnto
import Derived.Lib.MinMax
import Derived.Outline
import Derived.OwnWalk
import Derived.RangeFuncNested
import Derived.RangeFuncBound
import Derived.RangeFuncCalls
import Derived.RangeFuncLeaves
import Derived.RangeFuncBox
import Derived.Shelf.Abstract
import Derived.Shelf.RegionOpen
import Derived.OwnWalkIn
import Derived.TacticsInMore
import Derived.LoopNIn
import Derived.LoopIn
namespace Go.Proofs.YtpnegheknjeljaaGreat.imc
set_option maxRecDepth 100000
set_option linter.unusedVariables false
set_option linter.unusedSimpArgs false
open Go.RowKit Go.Shelf
attribute [local go_sem] Oper.semAt_some

def byV (l : List UInt8) : List Value := l.map fun b => .int .u8 (b.toNat : Int)
@[simp] theorem Zeh (l : List UInt8) : (byV l).length = l.length := by simp [byV]
theorem byV_get {l : List UInt8} {i : Nat} (h : i < l.length) : (byV l)[i]? = some (.int .u8 (l[i].toNat : Int)) := by simp [byV, h]
theorem byV_append (a b : List UInt8) : byV (a ++ b) = byV a ++ byV b := by simp [byV]
theorem info_u8 : (Tryz.prog.info? 5).map (fun i => (i.zero, i.size, i.bytes)) = some (some (.int .u8 0), 1, 1) := by kernel_rfl
theorem append_none (w : World) (a : Option Addr) (n cap : Nat) (hc : n <= cap) : (Builtin.append_ #[39, 3] 39 #[.slice a n cap, .int .i64 0]).run Tryz.prog w = .ok (.slice a n cap) w := by
  obtain ⟨i, hi, hz0, hz1, hz2⟩ := info_parts info_u8
  cases a <;> simp [Builtin.append_, run_underlying Tryz.underlying39, run_underlying Tryz.underlying3, sizeOf, typeInfo, hi, asInt, asIntOf, hc, IntKind.wrap_i64, storeCells]
theorem zero_by (k : Nat) : Builtin.zeroCells (Value.int .u8 0).cells k = (byV (List.replicate k 0)).toArray := by
  have hs : (Value.int .u8 0).cells = #[Value.int .u8 0] := rfl
  rw [hs]
  apply Array.ext
  · simp [Builtin.zeroCells]
  · intro i h1 h2
    simp [Builtin.zeroCells, byV, Nat.mod_one]
theorem row_front {w : World} {b cap : Nat} {xs : List Value} {rest : Array Value} {e : TypeId} {fr : Nat × Nat} (h : w.heap[b]? = some (.cells (xs.toArray ++ rest) e fr)) (h1 : xs.length <= cap) (h2 : cap <= maxLen) : RowV w (.slice (some ⟨b, 0, none⟩) xs.length cap) xs :=
  ⟨some ⟨b, 0, none⟩, cap, rfl, h1, h2, fun _ => ⟨b, 0, rfl, fun i u hu => by
    have hi := (List.getElem?_eq_some_iff.1 hu).1
    simp only [World.cell?, h, Nat.zero_add]
    rw [Array.getElem?_append_left (by simpa using hi)]
    simpa using hu⟩⟩
theorem filled_any (b off m : Nat) (l : List UInt8) (hl : l.length = m) (hm : m <= 32) (w : World) (hc : ∀ i u, (byV l)[i]? = some u -> w.cell? ⟨b, off + i, none⟩ = some u) :
    Calls Tryz.prog 135 #[.slice (some ⟨b, off, none⟩) m m, .int .i64 32] w fun e w' => ∃ v, e = .returned v /\ RowV w' v (byV (l ++ List.replicate (32 - m) 0)) /\ Ex w w' := by
  have hrow : RowV w (.slice (some ⟨b, off, none⟩) m m) (byV l) := ⟨some ⟨b, off, none⟩, m, by rw [Zeh, hl], by rw [Zeh, hl]; omega, by unfold maxLen; omega, fun _ => ⟨b, off, rfl, hc⟩⟩
  rcases Nat.eq_or_lt_of_le hm with rfl | hlt
  · have HR := Lib.hid (append_none w (some ⟨b, off, none⟩) 32 32 (Nat.le_refl _))
    have HO := Lib.hid hrow
    clear hc hrow
    go_enter Tryz.func135, Tryz.ntmps135
    go_wp2_with (at_builtin; refine Lib.wpList_append_run _ rfl _ _ _ _ rfl _ _ rfl rfl _ _ HR.out ?_)
    go_ret
    exact ⟨_, rfl, by simpa using HO.out, Ex.refl _⟩
  · obtain ⟨i0, hi, hz0, hz1, hz2⟩ := info_parts info_u8
    obtain ⟨k, hk⟩ : ∃ k, k = 32 - m := ⟨_, rfl⟩
    have hkz : (32 : Int) - (m : Int) = (k : Int) := by omega
    have hfc := run_firstCells_some (P := Tryz.prog) (w := w.drew) i0.size m ⟨b, off, none⟩ m m (byV l) (by rw [Zeh, hl, hz1]; omega) (fun j v hv => by
      have := hc j v hv
      rw [show (⟨b, off, none⟩ : Addr).add j = ⟨b, off + j, none⟩ by unfold Addr.add; split <;> simp_all]
      exact this)
    have hnc : Builtin.nextslicecap (m + k) m <= 1000 := by
      unfold Builtin.nextslicecap
      split
      · omega
      · split <;> omega
    have hr := Lib.run_append_grow_zeros (P := Tryz.prog) w 39 3 39 5 i0 (.int .u8 0) .i64 .i64 Tryz.underlying39 Tryz.underlying3 hi hz0 (some ⟨b, off, none⟩) m m (byV l) hfc k (by omega) (by omega) (by omega) (by omega) (by rw [hz2]; omega) (by rw [hz2]; omega)
    have hcap := grownCap_ge w (m + k) m 5
    have hcm : grownCap w (m + k) m 5 <= maxLen := grownCap_le_maxLen w (m + k) m 5 (by unfold maxLen; omega)
    have hlen : (byV (l ++ List.replicate k 0)).length = m + k := by rw [Zeh, List.length_append, hl, List.length_replicate]
    rw [zero_by k, show (byV l).toArray ++ (byV (List.replicate k 0)).toArray = (byV (l ++ List.replicate k 0)).toArray by rw [byV_append]; simp] at hr
    generalize hc0 : grownCap w (m + k) m 5 = c at *
    have HE := Lib.hid (show Ex w (w.drew.alloc (.cells ((byV (l ++ List.replicate k 0)).toArray ++ Builtin.zeroCells (Value.int .u8 0).cells (c - (m + k))) 5)) from ((Below.refl _ _).drew).alloc (Nat.le_refl _) _)
    have HO := Lib.hid (show RowV (w.drew.alloc (.cells ((byV (l ++ List.replicate k 0)).toArray ++ Builtin.zeroCells (Value.int .u8 0).cells (c - (m + k))) 5)) (.slice (some ⟨w.heap.size, 0, none⟩) (m + k) c) (byV (l ++ List.replicate k 0)) by
      have := row_front (w := w.drew.alloc (.cells ((byV (l ++ List.replicate k 0)).toArray ++ Builtin.zeroCells (Value.int .u8 0).cells (c - (m + k))) 5)) (b := w.heap.size) (cap := c) (heap_alloc_new w.drew _) (by rw [hlen]; exact hcap) hcm
      rwa [hlen] at this)
    rw [<- hk]
    generalize byV (l ++ List.replicate k 0) = xs at *
    generalize w.drew.alloc (.cells (xs.toArray ++ Builtin.zeroCells (Value.int .u8 0).cells (c - (m + k))) 5) = W at *
    have HR := Lib.hid hr
    have HK := Lib.hid hkz
    clear hr hkz hfc hc hrow hc0 hcap hcm hlen hnc
    have k1 : (k : Int) <= 32 := by omega
    have m1 : (m : Int) < 32 := by omega
    clear hk
    go_enter Tryz.func135, Tryz.ntmps135
    go_wp2_with (at_builtin; simp only [HK.out]; refine Lib.wpList_append_run _ rfl _ _ _ _ rfl _ _ rfl rfl _ _ HR.out ?_)
    go_ret
    exact ⟨_, rfl, HO.out, HE.out⟩

def Zb2 (len : Nat) : Nat := (len + 31) / 32
def upTo (k : Nat) : List Nat := List.range k
theorem upTo_succ (k : Nat) : upTo (k + 1) = upTo k ++ [k] := by simp [upTo, List.range_succ]
theorem upTo_length (k : Nat) : (upTo k).length = k := by simp [upTo]
def encC (b off len k : Nat) : Array Value := #[.slice (some ⟨b, off + 32 * k, none⟩) (min 32 (len - 32 * k)) (min 32 (len - 32 * k))]
theorem add_off (b off j : Nat) : (⟨b, off, none⟩ : Addr).add j = ⟨b, off + j, none⟩ := by unfold Addr.add; split <;> simp_all

set_option maxHeartbeats 4000000 in
theorem chunk1_in (F : Fence) (n : Nat) (h7 : F.fn 156) (hro : F.round = none) (hn : 1 <= n) (l Bs Bn b off len cap : Nat) (hlen : len <= 1000000) (hcap : len <= cap) (hcm : cap <= 9223372036854775807) (J Jx : List Nat -> World -> Prop) (Kp : World -> World -> Prop) (hKr : ∀ W, Kp W W) (hKt : ∀ A B C : World, Kp A B -> Kp B C -> Kp A C) (hKd : ∀ W, Kp W W.drew) (hJ : ∀ pre W, J pre W -> J pre W.drew)
    (hY : ∀ pre x W, J pre W -> pre.length < Zb2 len -> YieldAt F (n - 1) Tryz.prog l (encC b off len x) W fun e W' =>
      (e = .returned (.bool true) /\ J (pre ++ [x]) W' /\ Kp W W') \/ (e = .returned (.bool false) /\ Jx (pre ++ [x]) W'))
    (W : World) (hBs : ∀ W', Kp W W' -> W'.cell? ⟨Bs, 0, none⟩ = some (.slice (some ⟨b, off, none⟩) len cap)) (hBn : ∀ W', Kp W W' -> W'.cell? ⟨Bn, 0, none⟩ = some (.int .i64 32)) (h0 : J [] W) :
    CallsIn F n Tryz.prog 156 #[.func (.yield l) #[] #[], .pointer (some ⟨Bs, 0, none⟩), .pointer (some ⟨Bn, 0, none⟩)] W fun e W' => (∃ v, e = .returned v) ∧
      ((∃ ys, ys = upTo (Zb2 len) /\ J ys W') \/ (∃ pre, (∃ k, k <= Zb2 len /\ pre = upTo k) /\ Jx pre W')) := by
  have HBs := Lib.hid hBs
  have HBn := Lib.hid hBn
  have HY := Lib.hid hY
  have HJ := Lib.hid hJ
  have HKr := Lib.hid hKr
  have HKt := Lib.hid hKt
  have HKd := Lib.hid hKd
  clear hBs hBn hY hJ hKr hKt hKd
  refine callsIn_of_wp Tryz.func156 rfl h7 ?_ hro
  simp only [Tryz.ntmps156, List.size_toArray, List.length_cons, List.length_nil, Nat.reduceAdd, Nat.reduceSub, Array.replicate_succ, Array.replicate_zero, List.push_toArray, List.append_toArray, List.nil_append, List.cons_append]
  gi_wp2
  gi_loopw [4] (fun i wr => ∃ k : Nat, k <= Zb2 len /\ i = .int .i64 (32 * (k : Int)) /\ J (upTo k) wr /\ Kp W wr)
    (fun i _ => 1000064 - (intOf i).toNat)
  case atStart => exact ⟨0, Nat.zero_le _, by simp, h0, HKr.out _⟩
  case round =>
    obtain ⟨k, hk, rfl, hJs, hnx⟩ := hrel
    have hs1 := HBs.out wr hnx
    have hn1 := HBn.out wr hnx
    by_cases hlt : 32 * k < len
    · obtain ⟨fn, tmps, assign, body, hy, hR⟩ := HY.out _ k wr.drew (HJ.out _ _ hJs) (by rw [upTo_length]; unfold Zb2; omega)
      have hpk : k + 1 <= Zb2 len := by unfold Zb2; omega
      simp only [encC] at hy
      obtain ⟨i, hi⟩ : ∃ i : Nat, i = 32 * k := ⟨_, rfl⟩
      have hii : (32 : Int) * (k : Int) = (i : Int) := by omega
      obtain ⟨m, hm⟩ : ∃ m : Nat, m = min 32 (len - i) := ⟨_, rfl⟩
      have hmi : min (32 : Int) ((len - i : Nat) : Int) = (m : Int) := by omega
      have hmt : ((i : Int) + (m : Int)).toNat - i = m := by omega
      rw [<- hi, <- hm] at hy
      rw [<- hi] at hlt
      rw [hii]
      have i0 : (i : Int) < (len : Int) := by omega
      have HM := Lib.hid hmi
      have HT := Lib.hid hmt
      have HK := Lib.hid hi
      have HP := Lib.hid hpk
      have HS := Lib.hid (upTo_succ k)
      have HX := Lib.hid (HKt.out _ _ _ hnx (HKd.out wr))
      have im : (i : Int) + (m : Int) <= (len : Int) := by omega
      have im0 : (i : Int) <= (i : Int) + (m : Int) := by omega
      have hm0 : 0 < m := by omega
      have hm1 : m ≠ 0 := by omega
      have hm2 : (0 : Int) < (m : Int) := by omega
      have HR := Lib.hid hR
      have hsd : wr.drew.cell? ⟨Bs, 0, none⟩ = some (.slice (some ⟨b, off, none⟩) len cap) := hs1
      have hnd : wr.drew.cell? ⟨Bn, 0, none⟩ = some (.int .i64 32) := hn1
      clear hi hpk hii hm hmi hmt hR hnx hJs h0
      gi_wp2
      gi_region
      all_goals simp only [HM.out]
      all_goals gi_wp2
      all_goals first | (exfalso; omega) | skip
      all_goals
        refine HR.out.mono ?_
        rintro e W3 (⟨rfl, hJ3, hk3⟩ | ⟨rfl, hJx3⟩)
        · have hX3 := HKt.out _ _ _ HX.out hk3
          have hn3 := HBn.out W3 hX3
          have iw : (i : Int) + 32 <= 1000064 := by omega
          gi_wp2
          go_roundw
          case rel => exact ⟨k + 1, HP.out, vint (by have := HK.out; omega), by rw [HS.out]; exact hJ3, hX3⟩
          case measure => simp [intOf]; omega
        · gi_wp2
          refine bodyPost_ret (results_none rfl _ _ _) rfl ?_
          exact ⟨⟨_, rfl⟩, .inr ⟨_, ⟨k + 1, HP.out, HS.out.symm⟩, hJx3⟩⟩
    · obtain ⟨i, hi⟩ : ∃ i : Nat, i = 32 * k := ⟨_, rfl⟩
      have hii : (32 : Int) * (k : Int) = (i : Int) := by omega
      have hkp : k = Zb2 len := by unfold Zb2 at hk ⊢; omega
      rw [hii]
      have i0 : ¬ ((i : Int) < (len : Int)) := by omega
      have HK := Lib.hid hkp
      clear hi hii hkp hk hlt
      gi_wp2
      go_end0
      exact ⟨⟨_, rfl⟩, .inl (by rw [<- HK.out]; exact hJs)⟩

set_option maxHeartbeats 1000000 in
theorem chunk_in (F : Fence) (n : Nat) (h5 : F.fn 134) (hro : F.round = none) (a : Option Addr) (len cap : Nat) (w : World) :
    CallsIn F n Tryz.prog 134 #[.slice a len cap, .int .i64 32] w fun e w' => e = .returned (.func (.func 156) #[] #[.pointer (some ⟨w.heap.size, 0, none⟩), .pointer (some ⟨w.heap.size + 1, 0, none⟩)]) /\ w' = (w.alloc (.cells #[.slice a len cap] 39)).alloc (.cells #[.int .i64 32] 3) := by
  refine callsIn_of_wp Tryz.func134 rfl h5 ?_ hro
  simp only [Tryz.ntmps134, List.size_toArray, List.length_cons, List.length_nil, Nat.reduceAdd, Nat.reduceSub, Array.replicate_succ, Array.replicate_zero, List.push_toArray, List.append_toArray, List.nil_append, List.cons_append]
  gi_wp2
  go_ret
  exact ⟨rfl, rfl⟩

def KpL (L n₀ : Nat) (W W' : World) : Prop := ∀ k, k < n₀ -> k ≠ L -> W'.heap[k]? = W.heap[k]?
theorem KpL.cell {L n₀ B o : Nat} {W W' : World} (h : KpL L n₀ W W') (h1 : B < n₀) (h2 : B ≠ L) : W'.cell? ⟨B, o, none⟩ = W.cell? ⟨B, o, none⟩ := World.cell?_of_block (h B h1 h2)
theorem chunk_stops (F : Fence) (n : Nat) (h7 : F.fn 156) (hro : F.round = none) (hn : 1 <= n) (Bs Bn L n₀ b off len cap : Nat) (hlen : len <= 1000000) (hcap : len <= cap) (hcm : cap <= maxLen) (w : World) (hBs : Bs < n₀) (hBn : Bn < n₀) (h1 : Bs ≠ L) (h2 : Bn ≠ L) (hn₀ : n₀ = w.heap.size)
    (hc : w.cell? ⟨Bs, 0, none⟩ = some (.slice (some ⟨b, off, none⟩) len cap)) (hd : w.cell? ⟨Bn, 0, none⟩ = some (.int .i64 32)) :
    SeqStopsK F n Tryz.prog 156 #[.pointer (some ⟨Bs, 0, none⟩), .pointer (some ⟨Bn, 0, none⟩)] (encC b off len) (KpL L n₀) (fun ys => ys = upTo (Zb2 len)) (fun pre => ∃ k, k <= Zb2 len /\ pre = upTo k) (Zb2 len) w := fun l J Jx W hW hJ _ hY h0 => by
  subst hn₀
  exact chunk1_in F n h7 hro hn l Bs Bn b off len cap hlen hcap (by unfold maxLen at hcm; exact hcm) J Jx (KpL L w.heap.size) (fun _ _ _ _ => rfl) (fun _ _ _ h k i hi hl => (k i hi hl).trans (h i hi hl)) (fun _ _ _ _ => rfl) (fun pre W1 h1 => hJ pre W1 _ none h1 ⟨rfl, rfl, rfl, Nat.le_refl _, fun _ _ _ => rfl⟩ (fun r h => by cases h)) hY W
    (fun W' hW' => (hW'.cell hBs h1).trans ((Below.cell hW (p := ⟨Bs, 0, none⟩) hBs).trans hc)) (fun W' hW' => (hW'.cell hBn h2).trans ((Below.cell hW (p := ⟨Bn, 0, none⟩) hBn).trans hd)) h0

end Go.Proofs.YtpnegheknjeljaaGreat.imc
