/- What is cut into sectors (package image): sectors, by hand. -/
import Derived.Test.YtpnegheknjeljaaGreatImc
import Derived.Lib.BufferRead
namespace Go.Proofs.YtpnegheknjeljaaGreat.imc
set_option maxRecDepth 100000
set_option linter.unusedVariables false
set_option linter.unusedSimpArgs false
open Go.RowKit Go.Shelf
attribute [local go_sem] Oper.semAt_some

theorem conv_by (v : Value) (l : List UInt8) (w : World) (h : RowV w v (byV l)) :
    (convert 39 9 v).run Tryz.prog w = .ok (.string ⟨l.toArray⟩) w := by
  obtain ⟨a, cap, rfl, h1, h2, h3⟩ := h
  rw [Zeh]
  rcases a with _ | ad
  · have : l = [] := by
      rcases Nat.eq_zero_or_pos l.length with h0 | h0
      · exact List.eq_nil_of_length_eq_zero h0
      · obtain ⟨b, off, h, _⟩ := h3 (by rw [Zeh]; exact h0)
        cases h
    subst this
    exact Lib.run_convert_nil_bytes w _ _ 5 cap Tryz.underlying39 Tryz.underlying5 Tryz.underlying9
  · refine run_convert_bytes_back w _ _ 5 ad cap l Tryz.underlying39 Tryz.underlying5 Tryz.underlying9 fun j hj => ?_
    obtain ⟨b, off, h, hc⟩ := h3 (by rw [Zeh]; omega)
    cases h
    rw [add_off]
    exact hc j _ (byV_get hj)

def stV (l : List ByteArray) : List Value := l.map Value.string
def cut32 (bs : List UInt8) (k : Nat) : ByteArray := ⟨((((bs.drop (32 * k)).take 32) ++ List.replicate (32 - min 32 (bs.length - 32 * k)) 0)).toArray⟩
def cuts (bs : List UInt8) (k : Nat) : List ByteArray := (List.range k).map (cut32 bs)
theorem info_str : (Tryz.prog.info? 9).map (fun i => (i.zero, i.size, i.bytes)) = some (some (.string ⟨#[]⟩), 1, 16) := by kernel_rfl
theorem Zih {b : Bool} {p q : Prop} (hb : b = true) (hp : p) : if b = true then p else q := by rw [if_pos hb]; exact hp
theorem Zf0 {F : Fence} {n : Nat} {o : Oper} {a : Act} {w w' : World} {K : Act -> World -> Prop} {Q : Exit -> Act -> World -> Prop} (s x : Operand) (t : TypeId) (ho : o.op = .call { callee := .builtin .append, args := #[s, x], argTypes := #[t, t] }) (vs vx v' : Value) (hs : a.eval s = vs) (hx : a.eval x = vx)
    (hr : (Builtin.append_ #[t, t] o.type #[vs, vx]).run Tryz.prog w = .ok v' w') (h : K (a.put o.dst v') w') : o.wpIn F n Tryz.prog a w K Q := by
  unfold Oper.wpIn
  refine ⟨?_, ?_⟩
  · simp [Oper.about, ho, resolve, Target.leads, Sem.run_pure]
  · rw [Oper.semAt_plain F _ _ (by rw [ho]; intro c hc'; cases hc')]
    simp [execOp, ho, resolve, invoke, builtin, hs, hx, hr, Result.andThen]
    exact h
theorem ex_al {w W : World} (h : Ex w W) (o : Obj) : Ex w (W.alloc o) := Below.alloc h h.size o
theorem ex_st {w W : World} (h : Ex w W) {p : Addr} (hp : w.heap.size <= p.block) (u : Value) : Ex w (W.setCell p u) := Below.setCell h hp u
def Lrow (w W0 : World) (q L : Nat) (xs : List ByteArray) (W : World) : Prop := (∃ v, Boxed W L 26 v /\ W.ownsRow q 9 1 v xs.length (stV xs)) /\ KpL L q W0 W /\ Ex w W /\ q <= W.heap.size
theorem Zeo {W : World} {q n : Nat} {v : Value} {xs : List Value} {t : TypeId} (h : W.ownsRow q t 1 v n xs) {g : Nat} (hg : v.ownBlock = some g) : q <= g /\ ∃ o : Obj, W.heap[g]? = some o /\ o.isCells = true := by
  rcases h.2 with ⟨rfl, _⟩ | ⟨g', cap, cur, rfl, hq, hc, _⟩
  · cases hg
  · simp only [Value.ownBlock, Option.some.injEq] at hg
    subst hg
    exact ⟨hq, _, hc, rfl⟩
theorem Zb8 {W : World} {q q' n sz : Nat} {v : Value} {xs : List Value} {t : TypeId} (h : W.ownsRow q t sz v n xs) (hb : q' <= q) : W.ownsRow q' t sz v n xs := by
  refine ⟨h.1, ?_⟩
  rcases h.2 with h | ⟨g, cap, cur, h1, h2, h3⟩
  · exact .inl h
  · exact .inr ⟨g, cap, cur, h1, by omega, h3⟩
theorem body_fin {w W0 W W4 W6 : World} {q L n : Nat} {v v' : Value} {xs : List ByteArray} {s : ByteArray} {ys : List Value} (hL : L < q) (hwL : w.heap.size <= L) (hq : q <= W.heap.size) (hbx : Boxed W L 26 v) (hown : W.ownsRow q 9 1 v n ys) (hkp : KpL L q W0 W) (hex : Ex w W)
    (hE4 : Ex W.drew W4) (hown6 : W6.ownsRow q 9 1 v' xs.length (stV xs)) (hg6 : (W4.alloc (.cells #[.string s] 9)).grownBy W6 v.ownBlock) :
    KeepsFrom q W (W6.setCell ⟨L, 0, none⟩ v') /\ KpL L q W (W6.setCell ⟨L, 0, none⟩ v') /\ Lrow w W0 q L xs (W6.setCell ⟨L, 0, none⟩ v') := by
  have hsz4 : W.heap.size <= W4.heap.size := hE4.size
  have hsz6 : W4.heap.size <= W6.heap.size := by have := hg6.size; simp at this; omega
  have b6 : ∀ k, k < W.heap.size -> v.ownBlock ≠ some k -> W6.heap[k]? = W.heap[k]? := fun k hk hne => by
    rw [hg6.block k (by simp; omega) (fun e => hne e.symm), Below.heap_alloc _ _ _ (by omega)]
    exact hE4.block k hk
  have hkp6 : KpL L q W (W6.setCell ⟨L, 0, none⟩ v') := fun k hk hkL => by
    rw [Below.heap_setCell _ _ _ _ (by simpa using hkL)]
    exact b6 k (by omega) (fun e => by have := (Zeo hown e).1; omega)
  refine ⟨⟨?_, ?_⟩, hkp6, ⟨v', ?_, ?_⟩, fun k hk hkL => (hkp6 k hk hkL).trans (hkp k hk hkL), ?_, ?_⟩
  · simp [World.setCell]; omega
  · intro k o hk ho hc
    rw [Below.heap_setCell _ _ _ _ (by simp; omega), b6 k (Array.getElem?_eq_some_iff.1 ho).1 (fun e => by
      obtain ⟨_, o', ho', hc'⟩ := Zeo hown e
      rw [ho] at ho'
      cases ho'
      rw [hc] at hc'
      cases hc')]
    exact ho
  · have : Boxed W6 L 26 v := by
      show W6.heap[L]? = _
      rw [b6 L (by omega) (fun e => by have := (Zeo hown e).1; omega)]
      exact hbx
    exact this.set v'
  · refine hown6.kept (row := some L) (grownBy_setCell' W6 L v') ?_
    cases hb : v'.ownBlock with
    | none => exact .inl rfl
    | some g => exact .inr (fun e => by
        have := (Zeo hown6 hb).1
        cases e
        omega)
  · refine ex_st ⟨?_, ?_, ?_, by have := hex.size; omega, fun k hk => ?_⟩ (by simpa using hwL) v'
    · exact hg6.os.trans (hE4.os.trans hex.os)
    · exact hg6.tape.trans (hE4.tape.trans hex.tape)
    · exact hg6.output.trans (hE4.output.trans hex.output)
    · rw [b6 k (by have := hex.size; omega) (fun e => by have := (Zeo hown e).1; omega)]
      exact hex.block k hk
  · simp [World.setCell]; omega
def MayY (w : World) (sv : Value) : Prop := ∀ W, Ex w W -> Calls Tryz.prog 132 #[sv] W fun e W' => e = .returned (.bool true) /\ Ex W W'
def PutsY (w : World) (sv : Value) (bs : List UInt8) : Prop := ∀ W B, Ex w W -> w.heap.size <= B -> W.heap[B]? = some (.cells #[.slice none 0 0] 177 (0, 0)) -> Calls Tryz.prog 133 #[.pointer (some ⟨B, 0, none⟩), sv] W fun e W' =>
  (∃ u, e = .returned u) /\ Ex w W' /\ ∃ b2 cap fz, W'.heap[B]? = some (.cells #[.slice (some ⟨b2, 0, none⟩) bs.length cap] 177 fz) /\ b2 < W'.heap.size /\ b2 ≠ B /\ bs.length <= cap /\ cap <= maxLen /\ ∀ i u, (byV bs)[i]? = some u -> W'.cell? ⟨b2, i, none⟩ = some u
set_option maxHeartbeats 4000000 in
theorem sectors_yes (fv mv ep : Value) (bs : List UInt8) (w : World) (hb1 : 1 <= bs.length) (hb2 : bs.length <= 100000) (hMay : MayY w (.agg #[fv, mv, ep])) (hSt : PutsY w (.agg #[fv, mv, ep]) bs) :
    Calls Tryz.prog 105 #[.agg #[fv, mv, ep]] w fun e W' => ∃ v, e = .returned v /\ W'.ownsRow w.heap.size 9 1 v (Zb2 bs.length) (stV (cuts bs (Zb2 bs.length))) /\ Ex w W' := by
  refine (callsIn_wide (n := 6)).1 ?_
  obtain ⟨F, hF⟩ : ∃ F, F = Fence.wide := ⟨_, rfl⟩
  rw [<- hF]
  have HMay := Lib.hid (show ∀ W n, Ex w W -> CallsIn F n Tryz.prog 132 #[.agg #[fv, mv, ep]] W fun e W' => e = .returned (.bool true) /\ Ex W W' from fun W n h => by rw [hF]; exact callsIn_wide.2 (hMay W h))
  have HSt := Lib.hid (show ∀ W n B, Ex w W -> w.heap.size <= B -> W.heap[B]? = some (.cells #[.slice none 0 0] 177 (0, 0)) -> CallsIn F n Tryz.prog 133 #[.pointer (some ⟨B, 0, none⟩), .agg #[fv, mv, ep]] W fun e W' =>
  (∃ u, e = .returned u) /\ Ex w W' /\ ∃ b2 cap fz, W'.heap[B]? = some (.cells #[.slice (some ⟨b2, 0, none⟩) bs.length cap] 177 fz) /\ b2 < W'.heap.size /\ b2 ≠ B /\ bs.length <= cap /\ cap <= maxLen /\ ∀ i u, (byV bs)[i]? = some u -> W'.cell? ⟨b2, i, none⟩ = some u from fun W n B h h1 h2 => by rw [hF]; exact callsIn_wide.2 (hSt W B h h1 h2))
  have hf1 : F.fn 105 := by rw [hF]; trivial
  have hf2 : F.fn 132 := by rw [hF]; trivial
  have hf3 : F.fn 133 := by rw [hF]; trivial
  have hf4 : F.fn 134 := by rw [hF]; trivial
  have hf5 : F.fn 156 := by rw [hF]; trivial
  have hf6 : F.fn 135 := by rw [hF]; trivial
  have hro : F.round = none := by rw [hF]; rfl
  have HC := Lib.hid (show ∀ (l n : Nat) (f : FuncId) (args : Array Value) (w : World) (R : Ending -> World -> Prop), Calls Tryz.prog f args w R -> CallsIn (F.inRound l) n Tryz.prog f args w R from fun l n f args w R h => by rw [hF]; exact callsIn_wide.2 h)
  clear hF hMay hSt
  refine callsIn_of_wp_marks Tryz.func105 rfl hf1 ?_ hro
  simp only [Tryz.ntmps105, List.size_toArray, List.length_cons, List.length_nil, Nat.reduceAdd, Nat.reduceSub, Array.replicate_succ, Array.replicate_zero, List.push_toArray, List.append_toArray, List.nil_append, List.cons_append]
  gi_wp2_with (first
    | (gi_at_call 132
       refine (HMay.out _ _ (ex_al (Ex.refl _) _)).mono ?_
       rintro e W1 ⟨rfl, hE1⟩
       have hE := Below.trans (ex_al (Ex.refl w) (.cells #[fv, mv, ep] 33)) (hE1.mono (by simp))
       have cS : ∀ (i : Nat) (u : Value), #[fv, mv, ep][i]? = some u -> W1.cell? ⟨w.heap.size, i, none⟩ = some u := fun i u hu => by
         rw [Below.cell hE1 (p := ⟨w.heap.size, i, none⟩) (by simp)]
         rw [World.cell?_alloc_at _ _ _ _ rfl]
         simpa using hu
       have c0 := cS 0 fv rfl
       have c1 := cS 1 mv rfl
       have c2 := cS 2 ep rfl
       have hsz : w.heap.size < W1.heap.size := by have := hE1.size; simp at this; omega
       have HE1 := Lib.hid hE
       clear hE1 cS hE)
    | (gi_at_call 133
       refine (HSt.out _ _ _ (ex_al HE1.out _) HE1.out.size (heap_alloc_new W1 _)).mono ?_
       rintro e W2 ⟨⟨u, rfl⟩, hE2, b2, cap, fz, hB, hb2, hne, hc1, hc2, hcs⟩
       have cW : W2.cell? ⟨W1.heap.size, 0, none⟩ = some (.slice (some ⟨b2, 0, none⟩) bs.length cap) := by simp [World.cell?, hB]
       have hsz2 : W1.heap.size < W2.heap.size := (Array.getElem?_eq_some_iff.1 hB).1
       have HE2 := Lib.hid hE2
       have HCS := Lib.hid hcs
       clear hE2 hcs hB c0 c1 c2)
    | (gi_at_call 134
       refine (chunk_in F _ hf4 hro _ _ _ _).mono ?_
       rintro e W3 ⟨rfl, rfl⟩))
  have bL := ((Boxed.new W2 26 (.slice none 0 0)).alloc (.cells #[.slice (some ⟨b2, 0, none⟩) bs.length cap] 39)).alloc (.cells #[.int .i64 32] 3)
  have cA : (((W2.alloc (.cells #[.slice none 0 0] 26)).alloc (.cells #[.slice (some ⟨b2, 0, none⟩) bs.length cap] 39)).alloc (.cells #[.int .i64 32] 3)).cell? ⟨W2.heap.size + 1, 0, none⟩ = some (.slice (some ⟨b2, 0, none⟩) bs.length cap) := by
    rw [World.cell?_of_block (a := ⟨W2.heap.size + 1, 0, none⟩) (Below.heap_alloc _ _ _ (by simp)), World.cell?_alloc_at _ _ _ _ (by simp)]
    rfl
  have cN : (((W2.alloc (.cells #[.slice none 0 0] 26)).alloc (.cells #[.slice (some ⟨b2, 0, none⟩) bs.length cap] 39)).alloc (.cells #[.int .i64 32] 3)).cell? ⟨W2.heap.size + 1 + 1, 0, none⟩ = some (.int .i64 32) := by
    rw [World.cell?_alloc_at _ _ _ _ (by simp)]
    rfl
  have cB : ∀ i u, (byV bs)[i]? = some u -> (((W2.alloc (.cells #[.slice none 0 0] 26)).alloc (.cells #[.slice (some ⟨b2, 0, none⟩) bs.length cap] 39)).alloc (.cells #[.int .i64 32] 3)).cell? ⟨b2, i, none⟩ = some u := fun i u hu => by
    rw [World.cell?_of_block (a := ⟨b2, i, none⟩) (Below.heap_alloc _ _ _ (by simp; omega)), World.cell?_of_block (a := ⟨b2, i, none⟩) (Below.heap_alloc _ _ _ (by simp; omega)), World.cell?_of_block (a := ⟨b2, i, none⟩) (Below.heap_alloc _ _ _ (by simp; omega))]
    exact HCS.out i u hu
  have hE3 := ex_al (ex_al (ex_al HE2.out (.cells #[.slice none 0 0] 26)) (.cells #[.slice (some ⟨b2, 0, none⟩) bs.length cap] 39)) (.cells #[.int .i64 32] 3)
  have hq : (((W2.alloc (.cells #[.slice none 0 0] 26)).alloc (.cells #[.slice (some ⟨b2, 0, none⟩) bs.length cap] 39)).alloc (.cells #[.int .i64 32] 3)).heap.size = W2.heap.size + 3 := by simp
  have hwL : w.heap.size <= W2.heap.size := HE2.out.size
  have hbL : b2 < W2.heap.size := hb2
  generalize ((W2.alloc _).alloc _).alloc _ = W3 at *
  generalize hL : W2.heap.size = L at *
  generalize hB1 : W1.heap.size = B1 at *
  have HB3 := Lib.hid cB
  have HE3 := Lib.hid hE3
  clear cB hE3 cW HE2 HE1 HCS HMay HSt
  refine wpIn_rangeFunc_ownH hro (by omega) (gf := 156) (lb := #[.pointer (some ⟨L + 1, 0, none⟩), .pointer (some ⟨L + 1 + 1, 0, none⟩)]) rfl hf5 (enters_of Tryz.func156 (by kernel_rfl) rfl)
    (chunk_stops F (6 - 1) hf5 hro (by omega) (L + 1) (L + 1 + 1) L W3.heap.size b2 0 bs.length cap (by omega) hc1 hc2 W3 (by omega) (by omega) (by omega) (by omega) rfl cA cN)
    (fun h k i hi hl => (k i hi hl).trans (h i hi hl)) (fun W l o o' hl _ _ _ k hk _ => World.putObj_heap_other (by omega)) (Below.refl _ _) (fun _ => rfl)
    (fun pre W => Lrow w W3 W3.heap.size L (pre.map (cut32 bs)) W) (fun _ _ _ => False)
    ?own (fun _ _ _ _ _ h _ _ => h) ?start
    (fun x a' W => a' = { tmps := #[.agg #[fv, mv, ep], .pointer (some ⟨w.heap.size, 0, none⟩), .slice none 0 0, .pointer (some ⟨B1, 0, none⟩), .pointer (some ⟨L, 0, none⟩), .slice (some ⟨b2, 32 * x, none⟩) (min 32 (bs.length - 32 * x)) (min 32 (bs.length - 32 * x)), .agg #[fv, mv, ep], .bool true, .bool false, undef, .agg #[.slice none 0 0], .pointer (some ⟨B1, 0, none⟩), .pointer (some ⟨B1, 0, none⟩), .agg #[fv, mv, ep], u, .pointer (some ⟨B1, 0, none⟩), .pointer (some ⟨B1, 0, none⟩), .pointer (some ⟨B1, 0, none⟩), .slice (some ⟨b2, 0, none⟩) bs.length cap, .func (.func 156) #[] #[.pointer (some ⟨L + 1, 0, none⟩), .pointer (some ⟨L + 1 + 1, 0, none⟩)], .slice (some ⟨b2, 32 * x, none⟩) (min 32 (bs.length - 32 * x)) (min 32 (bs.length - 32 * x)), undef, undef, undef, undef, undef, undef, undef], defers := [] })
    (fun _ _ _ _ _ _ h _ _ => h) ?assign ?body ?done (fun _ _ _ _ _ _ h _ => h.elim)
  case own =>
    rintro pre X Y row ⟨⟨v, hb, ho⟩, hk, he, hz⟩ hg hr
    refine ⟨⟨v, hb.kept hg (fun e => by have := (hr L e.symm).1; omega), ho.kept hg ?_⟩, fun k hk1 hk2 => ?_, he.grown hg he.size (fun k e => by have := (hr k e).1; omega), Nat.le_trans hz hg.size⟩
    · cases hv : v.ownBlock with
      | none => exact .inl rfl
      | some g =>
        refine .inr (fun e => ?_)
        obtain ⟨_, o, ho1, ho2⟩ := hr g e.symm
        obtain ⟨_, o', ho3, ho4⟩ := Zeo ho hv
        rw [ho1] at ho3
        cases ho3
        rw [ho2] at ho4
        cases ho4
    · exact (hg.block k (by omega) (fun e => by have := (hr k e.symm).1; omega)).trans (hk k hk1 hk2)
  case start => exact ⟨⟨_, bL, World.ownsRow_nil _ _ _ _⟩, fun _ _ _ => rfl, HE3.out, Nat.le_refl _⟩
  case assign =>
    rintro l pre x W K hI hK
    unfold encC
    clear cA cN bL hb1 hb2
    gi_wp2
    exact hK _ _ (KeepsFrom.refl _ _) (fun _ _ _ => rfl) hI rfl
  case body =>
    rintro l pre x a' W hl ⟨r, hr⟩ ⟨⟨v, hbx, hown⟩, hkp, hex, hz⟩ rfl hlt
    have hcs : ∀ i u, (byV ((bs.drop (32 * x)).take 32))[i]? = some u -> W.drew.cell? ⟨b2, 32 * x + i, none⟩ = some u := fun i u hu => by
      show W.cell? _ = _
      rw [hkp.cell (by omega) (by omega)]
      refine HB3.out _ _ ?_
      simp only [byV, List.getElem?_map, List.getElem?_take, List.getElem?_drop] at hu ⊢
      split at hu
      · exact hu
      · cases hu
    have hfil := filled_any b2 (32 * x) (min 32 (bs.length - 32 * x)) ((bs.drop (32 * x)).take 32) (by simp) (by omega) W.drew hcs
    have cL : W.drew.cell? ⟨L, 0, none⟩ = some v := hbx.cell
    have hlq : L < W3.heap.size := by omega
    have hn : (pre.map (cut32 bs)).length <= 100000 := by simp only [List.length_map]; unfold Zb2 at hlt; omega
    have hrun : ∀ (W4 : World) (fv4 : Value), Ex W.drew W4 -> RowV W4 fv4 (byV ((bs.drop (32 * x)).take 32 ++ List.replicate (32 - min 32 (bs.length - 32 * x)) 0)) →
        (convert 39 9 fv4).run Tryz.prog W4 = .ok (.string (cut32 bs x)) W4 /\ W4.cell? ⟨L, 0, none⟩ = some v /\ (W4.alloc (.cells #[.string (cut32 bs x)] 9)).cell? ⟨L, 0, none⟩ = some v /\ ∃ va vn vc W6, (Builtin.append_ #[26, 26] 26 #[v, .slice (some ⟨W4.heap.size, 0, none⟩) 1 1]).run Tryz.prog (W4.alloc (.cells #[.string (cut32 bs x)] 9)) = .ok (.slice va vn vc) W6 /\ W6.cell? ⟨L, 0, none⟩ = some v /\ W6.frozen? ⟨L, 0, none⟩ = false ∧
          KeepsFrom W3.heap.size W (W6.setCell ⟨L, 0, none⟩ (.slice va vn vc)) /\ KpL L W3.heap.size W (W6.setCell ⟨L, 0, none⟩ (.slice va vn vc)) /\ Lrow w W3 W3.heap.size L ((pre ++ [x]).map (cut32 bs)) (W6.setCell ⟨L, 0, none⟩ (.slice va vn vc)) := by
      intro W4 fv4 hE4 hrow
      obtain ⟨i0, hi, hz0, hz1, hz2⟩ := info_parts info_str
      have own4 := Zod (show W.drew.ownsRow W3.heap.size 9 1 v (pre.map (cut32 bs)).length (stV (pre.map (cut32 bs))) from hown) hE4
      obtain ⟨v', W6, hr6, hown6, hg6⟩ := run_append_row (P := Tryz.prog) (W4.alloc (.cells #[.string (cut32 bs x)] 9)) W3.heap.size 26 26 9 i0 (.string ⟨#[]⟩) 16 Tryz.underlying26 hi hz0 hz1 hz2 rfl v _ _ (own4.alloc _) (.slice (some ⟨W4.heap.size, 0, none⟩) 1 1) [.string (cut32 bs x)] (RowV.made1 _ _ _) (fun u hu => by simp at hu; subst hu; rfl) (by simp only [List.length_singleton]; unfold maxLen; omega) (by simp only [List.length_singleton]; omega) (by have := hE4.size; simp at this; simp; omega)
      obtain ⟨va, vn, vc, rfl⟩ : ∃ va vn vc, v' = .slice va vn vc := by
        rcases hown6.2 with ⟨rfl, _⟩ | ⟨_, _, _, rfl, _⟩
        · exact ⟨_, _, _, rfl⟩
        · exact ⟨_, _, _, rfl⟩
      have hb6 : Boxed W6 L 26 v := by
        show W6.heap[L]? = _
        rw [hg6.block L (by have := hE4.size; simp at this; simp; omega) (fun e => by have := (Zeo hown e.symm).1; omega), Below.heap_alloc _ _ _ (by have := hE4.size; simp at this; omega)]
        exact (hE4.block L (by simp; omega)).trans hbx
      have c4 : W4.cell? ⟨L, 0, none⟩ = some v := (Below.cell hE4 (p := ⟨L, 0, none⟩) (by simp; omega)).trans cL
      exact ⟨conv_by fv4 _ W4 hrow, c4, (World.cell?_of_block (a := ⟨L, 0, none⟩) (Below.heap_alloc _ _ _ (by have := hE4.size; simp at this; simp; omega))).trans c4, va, vn, vc, W6, hr6, hb6.cell, hb6.frozen, body_fin hlq hwL hz hbx hown hkp hex hE4 (xs := (pre ++ [x]).map (cut32 bs)) (by simpa [stV] using hown6) hg6⟩
    have HFL := Lib.hid hfil
    have HRN := Lib.hid hrun
    clear cA cN bL hcs hfil hb1 hb2 hr hrun hbx hown hkp hex hn hlt
    gi_wp2
    refine wpIn_region_any (by kernel_rfl) ?_
    change wpAnyIn _ _ _ _ _ _ _ _ _ (World.drew _)
    refine wpAnyIn_ready (rs := [0, 1]) (by kernel_rfl) (by simp) ?_
    refine AllReadyIn.cons rfl (fun K hK => ?_) (AllReadyIn.cons rfl (fun K hK => ?_) AllReadyIn.nil)
    · go_simp; refine hK _ _ ?_; clear hK K
      refine wpAnyIn_ready (rs := [1]) (by kernel_rfl) (by simp) ?_
      refine AllReadyIn.cons rfl (fun K hK => ?_) AllReadyIn.nil
      go_simp; refine hK _ _ ?_; clear hK K
      refine wpAnyIn_ready (rs := [2]) (by kernel_rfl) (by simp) ?_
      refine AllReadyIn.cons rfl (fun K hK => ?_) AllReadyIn.nil
      go_simp; refine (HC.out _ _ _ _ _ _ HFL.out).mono ?_; rintro e W4 ⟨fv4, rfl, hrow, hE4⟩; obtain ⟨q1, q2, q2b, va, vn, vc, W6, q3, q4, q5, q6⟩ := HRN.out W4 fv4 hE4 hrow; have HQ := Lib.hid q6; clear q6 hrow hE4; refine hK _ _ ?_; clear hK K
      refine wpAnyIn_ready (rs := [3]) (by kernel_rfl) (by simp) ?_
      refine AllReadyIn.cons rfl (fun K hK => ?_) AllReadyIn.nil
      go_simp; refine hK _ _ ?_; clear hK K
      refine wpAnyIn_ready (rs := [4]) (by kernel_rfl) (by simp) ?_
      refine AllReadyIn.cons rfl (fun K hK => ?_) AllReadyIn.nil
      go_simp; refine hK _ _ ?_; clear hK K
      refine wpAnyIn_ready (rs := [5]) (by kernel_rfl) (by simp) ?_
      refine AllReadyIn.cons rfl (fun K hK => ?_) AllReadyIn.nil
      refine Zih rfl (Zf0 (.tmp 21) (.tmp 25) 26 rfl _ _ _ rfl rfl q3 ?_); refine hK _ _ ?_; clear hK K
      refine wpAnyIn_ready (rs := [6]) (by kernel_rfl) (by simp) ?_
      refine AllReadyIn.cons rfl (fun K hK => ?_) AllReadyIn.nil
      go_simp; refine hK _ _ ?_; clear hK K
      exact wpAnyIn_done (by kernel_rfl) HQ.out _
    · go_simp; refine hK _ _ ?_; clear hK K
      refine wpAnyIn_ready (rs := [0, 2]) (by kernel_rfl) (by simp) ?_
      refine AllReadyIn.cons rfl (fun K hK => ?_) (AllReadyIn.cons rfl (fun K hK => ?_) AllReadyIn.nil)
      · go_simp; refine hK _ _ ?_; clear hK K
        refine wpAnyIn_ready (rs := [2]) (by kernel_rfl) (by simp) ?_
        refine AllReadyIn.cons rfl (fun K hK => ?_) AllReadyIn.nil
        go_simp; refine (HC.out _ _ _ _ _ _ HFL.out).mono ?_; rintro e W4 ⟨fv4, rfl, hrow, hE4⟩; obtain ⟨q1, q2, q2b, va, vn, vc, W6, q3, q4, q5, q6⟩ := HRN.out W4 fv4 hE4 hrow; have HQ := Lib.hid q6; clear q6 hrow hE4; refine hK _ _ ?_; clear hK K
        refine wpAnyIn_ready (rs := [3]) (by kernel_rfl) (by simp) ?_
        refine AllReadyIn.cons rfl (fun K hK => ?_) AllReadyIn.nil
        go_simp; refine hK _ _ ?_; clear hK K
        refine wpAnyIn_ready (rs := [4]) (by kernel_rfl) (by simp) ?_
        refine AllReadyIn.cons rfl (fun K hK => ?_) AllReadyIn.nil
        go_simp; refine hK _ _ ?_; clear hK K
        refine wpAnyIn_ready (rs := [5]) (by kernel_rfl) (by simp) ?_
        refine AllReadyIn.cons rfl (fun K hK => ?_) AllReadyIn.nil
        refine Zih rfl (Zf0 (.tmp 21) (.tmp 25) 26 rfl _ _ _ rfl rfl q3 ?_); refine hK _ _ ?_; clear hK K
        refine wpAnyIn_ready (rs := [6]) (by kernel_rfl) (by simp) ?_
        refine AllReadyIn.cons rfl (fun K hK => ?_) AllReadyIn.nil
        go_simp; refine hK _ _ ?_; clear hK K
        exact wpAnyIn_done (by kernel_rfl) HQ.out _
      · go_simp; refine (HC.out _ _ _ _ _ _ HFL.out).mono ?_; rintro e W4 ⟨fv4, rfl, hrow, hE4⟩; obtain ⟨q1, q2, q2b, va, vn, vc, W6, q3, q4, q5, q6⟩ := HRN.out W4 fv4 hE4 hrow; have HQ := Lib.hid q6; clear q6 hrow hE4; refine hK _ _ ?_; clear hK K
        refine wpAnyIn_ready (rs := [0, 3]) (by kernel_rfl) (by simp) ?_
        refine AllReadyIn.cons rfl (fun K hK => ?_) (AllReadyIn.cons rfl (fun K hK => ?_) AllReadyIn.nil)
        · go_simp; refine hK _ _ ?_; clear hK K
          refine wpAnyIn_ready (rs := [3]) (by kernel_rfl) (by simp) ?_
          refine AllReadyIn.cons rfl (fun K hK => ?_) AllReadyIn.nil
          go_simp; refine hK _ _ ?_; clear hK K
          refine wpAnyIn_ready (rs := [4]) (by kernel_rfl) (by simp) ?_
          refine AllReadyIn.cons rfl (fun K hK => ?_) AllReadyIn.nil
          go_simp; refine hK _ _ ?_; clear hK K
          refine wpAnyIn_ready (rs := [5]) (by kernel_rfl) (by simp) ?_
          refine AllReadyIn.cons rfl (fun K hK => ?_) AllReadyIn.nil
          refine Zih rfl (Zf0 (.tmp 21) (.tmp 25) 26 rfl _ _ _ rfl rfl q3 ?_); refine hK _ _ ?_; clear hK K
          refine wpAnyIn_ready (rs := [6]) (by kernel_rfl) (by simp) ?_
          refine AllReadyIn.cons rfl (fun K hK => ?_) AllReadyIn.nil
          go_simp; refine hK _ _ ?_; clear hK K
          exact wpAnyIn_done (by kernel_rfl) HQ.out _
        · go_simp; refine hK _ _ ?_; clear hK K
          refine wpAnyIn_ready (rs := [0, 4]) (by kernel_rfl) (by simp) ?_
          refine AllReadyIn.cons rfl (fun K hK => ?_) (AllReadyIn.cons rfl (fun K hK => ?_) AllReadyIn.nil)
          · go_simp; refine hK _ _ ?_; clear hK K
            refine wpAnyIn_ready (rs := [4]) (by kernel_rfl) (by simp) ?_
            refine AllReadyIn.cons rfl (fun K hK => ?_) AllReadyIn.nil
            go_simp; refine hK _ _ ?_; clear hK K
            refine wpAnyIn_ready (rs := [5]) (by kernel_rfl) (by simp) ?_
            refine AllReadyIn.cons rfl (fun K hK => ?_) AllReadyIn.nil
            refine Zih rfl (Zf0 (.tmp 21) (.tmp 25) 26 rfl _ _ _ rfl rfl q3 ?_); refine hK _ _ ?_; clear hK K
            refine wpAnyIn_ready (rs := [6]) (by kernel_rfl) (by simp) ?_
            refine AllReadyIn.cons rfl (fun K hK => ?_) AllReadyIn.nil
            go_simp; refine hK _ _ ?_; clear hK K
            exact wpAnyIn_done (by kernel_rfl) HQ.out _
          · go_simp; refine hK _ _ ?_; clear hK K
            refine wpAnyIn_ready (rs := [0]) (by kernel_rfl) (by simp) ?_
            refine AllReadyIn.cons rfl (fun K hK => ?_) AllReadyIn.nil
            go_simp; refine hK _ _ ?_; clear hK K
            refine wpAnyIn_ready (rs := [5]) (by kernel_rfl) (by simp) ?_
            refine AllReadyIn.cons rfl (fun K hK => ?_) AllReadyIn.nil
            refine Zih rfl (Zf0 (.tmp 21) (.tmp 25) 26 rfl _ _ _ rfl rfl q3 ?_); refine hK _ _ ?_; clear hK K
            refine wpAnyIn_ready (rs := [6]) (by kernel_rfl) (by simp) ?_
            refine AllReadyIn.cons rfl (fun K hK => ?_) AllReadyIn.nil
            go_simp; refine hK _ _ ?_; clear hK K
            exact wpAnyIn_done (by kernel_rfl) HQ.out _
  case done =>
    rintro D xs W hD rfl ⟨⟨v, hb, ho⟩, hk, he, hz⟩ hK
    have cL := hb.cell
    have HO := Lib.hid ho
    have HX := Lib.hid he
    have HKD := Lib.hid hK
    have HX0 := Lib.hid (show w.heap.size <= W3.heap.size by omega)
    clear cA cN bL ho he hk hK hb hb1 hb2
    gi_wp2
    refine ⟨by simp, .inl ⟨_, _, rfl, run_takeDeferred HKD.out, ?_⟩⟩
    refine ⟨v, by simp [results, Tryz.results105, go_sem], v, rfl, ?_, ?_⟩
    · have h1 := HO.out
      simp only [List.length_map, upTo_length] at h1
      refine Zb8 (q := W3.heap.size) (h1.kept (grownBy_putObj' _ D (.deferred none)) ?_) HX0.out
      cases hv : v.ownBlock with
      | none => exact .inl rfl
      | some g =>
        refine .inr (fun e => ?_)
        cases e
        obtain ⟨_, o, ho1, ho2⟩ := Zeo HO.out hv
        rw [HKD.out] at ho1
        cases ho1
        cases ho2
    · exact Below.trans HX.out (show Below w.heap.size W _ from ⟨rfl, rfl, rfl, by simp [World.putObj], fun k hk => World.putObj_heap_other (by have := HX0.out; omega)⟩)
end Go.Proofs.YtpnegheknjeljaaGreat.imc
