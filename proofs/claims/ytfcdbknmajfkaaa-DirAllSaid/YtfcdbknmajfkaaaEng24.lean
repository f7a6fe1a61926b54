/- The engine: a contract out of pieces, of a function that turns what its first argument points to. -/
import Derived.Test.YtfcdbknmajfkaaaEng23
namespace Go.Proofs.Ytfcdbknmajfkaaa.eng
open Go Go.RowKit
variable {W0 : Base}
set_option linter.unusedVariables false
set_option linter.unusedSimpArgs false

/-- What is given, and the cells, each by itself. -/
def PtrE.all (E : PtrE) : FnE := { k := E.k, ins := E.ins ++ List.replicate E.cells none, leaks := List.replicate (shLen E.ins + E.cells) true, outs := [], kinds := [] }
def lentRoot (E : PtrE) (cells : List AV) : ARoot := { cells := cells, elem := E.elem, esz := 0, ro := false, opn := false, vers := [(0, E.cells)], dat := none, sym := none, lent := true }
def beginP (E : PtrE) (sh : Shape) : Option (List AV × St × List Fact) := (startD E.all (sh.rows.map fun k => match k with | some _ => .row | none => .num) []).bind fun (args, st, fs) =>
  cond (Nat.beq args.length (E.ins.length + E.cells)) ((St.put { st with next := st.next + 1 } st.next (lentRoot E (args.drop E.ins.length))).map fun st' => (.ptr st.next 0 0 0 0 :: args.take E.ins.length, st', fs)) none
def startOkP (E : PtrE) (fn : Func) (f : FuncId) (sh : Shape) : Bool := match beginP E sh with
  | some (args, st, fs) => Nat.blt args.length 16777215 && Nat.beq sh.rows.length (shLen E.ins + E.cells) && (canon sh []).isSome && varFacts sh.rows fs && (match readSt sh [(st.next - 1, 0)] (startA fn args f) st with | some (es, fs') => isVars es 0 && Nat.beq es.length sh.rows.length && varFacts sh.rows fs' | none => false)
  | none => false
/-- What is answered out of a state, and what lies in the cells. -/
def resToP (P : Program) (fn : Func) (sh : Shape) (E : PtrE) : Option (List SX) := (canon sh []).bind fun (x, st) => (aResults P fn x st).bind fun (y, l1) => (partsOf E.outs y).bind fun ys => (leavesA E.outs ys).bind fun ls => (st.heap.get 0).bind fun o => match o.vers with
  | (v, n) :: _ => (resAll st (ls ++ o.cells)).bind fun (es, l2) => cond (l1.V.isEmpty && l2.V.isEmpty && o.lent && !o.opn && Nat.beq n o.cells.length && Nat.beq n E.cells && Nat.beq o.elem E.elem) (some es) none
  | [] => none
theorem shLen_app : ∀ (a b : Sh), shLen (a ++ b) = shLen a + shLen b
  | [], b => by simp [shLen]
  | none :: a, b => by simp only [List.cons_append, shLen, shLen_app a b]; omega
  | some n :: a, b => by simp only [List.cons_append, shLen, shLen_app a b]; omega
theorem shLen_nones (n : Nat) : shLen (List.replicate n none) = n := by
  induction n with
  | zero => rfl
  | succ n ih => simp [List.replicate_succ, shLen, ih]
theorem assemble_nones : ∀ (vs : List Value), assemble (List.replicate vs.length none) vs = vs
  | [] => rfl
  | v :: vs => by simp [List.replicate_succ, assemble, assemble_nones vs]
theorem assemble_app : ∀ (a : Sh) (b : Sh) (us vs : List Value), us.length = shLen a → assemble (a ++ b) (us ++ vs) = assemble a us ++ assemble b vs
  | [], b, us, vs, h => by
    have : us = [] := List.eq_nil_of_length_eq_zero (by simpa [shLen] using h)
    subst this
    simp [assemble]
  | none :: a, b, [], vs, h => by simp [shLen] at h
  | none :: a, b, u :: us, vs, h => by
    have ih := assemble_app a b us vs (by simpa [shLen] using h)
    simp [assemble, ih]
  | some n :: a, b, us, vs, h => by
    simp only [shLen] at h
    have ih := assemble_app a b (us.drop n) vs (by simp; omega)
    simp only [List.cons_append, assemble]
    rw [List.take_append_of_le_length (by omega), List.drop_append_of_le_length (by omega), ih]
theorem assemble_len : ∀ (a : Sh) (us : List Value), us.length = shLen a → (assemble a us).length = a.length
  | [], us, h => by simp [assemble]
  | none :: a, [], h => by simp [shLen] at h
  | none :: a, u :: us, h => by simp [assemble, assemble_len a us (by simpa [shLen] using h)]
  | some n :: a, us, h => by
    simp only [shLen] at h
    simp [assemble, assemble_len a (us.drop n) (by simp; omega)]
theorem told_ptr {f : FuncId} {E : PtrE} {spec : List PV → Option (List PV)} (F : Fns) (fn : Func) (c : Code) (hfn : Try.prog.funcs[f]? = some fn) (hc : fn.body = some c) (sh0 : Shape) (hsh : startOkP E fn f sh0 = true)
    (hk : ∀ ps qs, spec ps = some qs → ∀ i : Nat, sh0.rows[i]? = some none → ∃ x, ps[i]? = some (.v x) ∧ x.oneCell' = true)
    (h : ∀ (C : Base) ps qs, C.F = F → spec ps = some qs → ∀ a w, InShape C sh0 ps a w → wpL Try.prog (flat c) (fun e a' w' => (e = .normal ∨ e = .ret) ∧ ∃ sh' ps' es, InShape C sh' ps' a' w' ∧ resToP Try.prog fn sh' E = some es ∧ evs (fun i => ps'[i]?) F es = some qs) a w) (hpl0 : E.kinds.all CK.plain = true := by rfl) : ToldP f E spec := by
  intro w FP b cc fz us ps qs hsp hul hpl hcs hcc hfz hFP hrd
  unfold startOkP at hsh
  split at hsh
  · rename_i args st fs hst
    simp only [Bool.and_eq_true, Nat.blt_eq, Nat.beq_eq] at hsh
    obtain ⟨⟨⟨⟨hal, hrl⟩, hcan⟩, hvf⟩, hread⟩ := hsh
    split at hread
    · rename_i es fs' hre
      simp only [Bool.and_eq_true, Nat.beq_eq] at hread
      obtain ⟨⟨hiv, hel⟩, hvf'⟩ := hread
      have hk' := hk ps qs hsp
      let B : Base := ⟨w, fun i => ps[i]?, F, FP, fun k => k = b⟩
      simp only [beginP, Option.bind_eq_some_iff] at hst
      obtain ⟨⟨args0, st0, fs0⟩, hst0, hst⟩ := hst
      cases hlen : Nat.beq args0.length (E.ins.length + E.cells) with
      | false => simp [hlen] at hst
      | true =>
        simp only [hlen, cond_true, Option.map_eq_some_iff, Prod.mk.injEq] at hst
        obtain ⟨st1, hput, rfl, rfl, rfl⟩ := hst
        have hlen := Nat.eq_of_beq_eq_true hlen
        have hcl : cc.toList.length = E.cells := by simpa using hcs
        have hall : shLen E.all.ins = shLen E.ins + E.cells := by simp [PtrE.all, shLen_app, shLen_nones]
        obtain ⟨m, hR, hF, hargs, hv0, hfps⟩ := start_rel (F := F) (X := fun k => k = b) (us := us ++ cc.toList) (ps := ps) hst0 (by simp [hul, hpl, hcl]) (by rw [hall]; exact hpl) (fun k hk => (hFP k hk).1)
          (fun i p u hp hu => ⟨hrd i p u hp hu w (fun _ _ => rfl), fun _ w2 hw2 => hrd i p u hp hu w2 hw2⟩) (varFacts_ok (B := B) hk' fs0 hvf)
        have hfp : ∀ r v fp, m.d r = some (v, fp) → ∀ k, fp k → FP k := fun r v fp hm k hk => by
          rcases hfps r v fp hm k hk with h | ⟨x, hx, hl⟩
          · exact h
          · exfalso
            have hx' : x < shLen E.ins + E.cells := by simp [hul, hcl] at hx; omega
            simp [PtrE.all, List.getD, List.getElem?_replicate, hx'] at hl
        have hasm : assemble E.all.ins (us ++ cc.toList) = assemble E.ins us ++ cc.toList := by
          simp only [PtrE.all]
          rw [assemble_app _ _ _ _ hul, ← hcl, assemble_nones]
        rw [hasm] at hargs
        have hail := assemble_len E.ins us hul
        have t1 := denL_take E.ins.length hargs
        have t2 := denL_drop E.ins.length hargs
        rw [← hail, List.take_left' rfl, hail] at t1
        rw [← hail, List.drop_left' rfl, hail] at t2
        obtain ⟨hpt, hnext⟩ := put_ok hput
        -- the state in which the call begins
        have hblt : b < w.heap.size := by
          rcases Nat.lt_or_ge b w.heap.size with h | h
          · exact h
          · rw [Array.getElem?_eq_none h] at hcc; cases hcc
        have hcells : (args0.drop E.ins.length).length = E.cells := by simp; omega
        have hle : m.Le (m.new st0.next (b, 0)) := ⟨fun r v x hx => by
          show (if r = st0.next ∧ v = 0 then some (b, 0) else m r v) = some x
          split
          · rename_i e
            rw [e.1, (hF st0.next trivial (Nat.le_refl _)).1 v] at hx
            cases hx
          · exact hx, fun _ _ h => h, fun _ _ h => h⟩
        have hup : ∀ r o, st1.heap.get r = some o → (r = st0.next ∧ o = lentRoot E (args0.drop E.ins.length)) ∨ (r ≠ st0.next ∧ st0.heap.get r = some o) := fun r o ho => by
          rw [hpt] at ho
          by_cases hr : r = st0.next
          · simp [Heap.upd, hr] at ho; exact .inl ⟨hr, ho.symm⟩
          · simp [Heap.upd, hr] at ho; exact .inr ⟨hr, ho⟩
        have hvr : ∀ r o v n, st1.heap.get r = some o → (v, n) ∈ o.vers → r = st0.next ∧ o = lentRoot E (args0.drop E.ins.length) ∧ v = 0 ∧ n = E.cells := fun r o v n ho hv => by
          rcases hup r o ho with ⟨h1, h2⟩ | ⟨h1, h2⟩
          · subst h2
            simp only [lentRoot, List.mem_singleton, Prod.mk.injEq] at hv
            exact ⟨h1, rfl, hv.1, hv.2⟩
          · rw [hv0 r o h2] at hv; cases hv
        have hmb : (m.new st0.next (b, 0)) st0.next 0 = some (b, 0) := by simp [Map.new]
        have hR1 : Rel B (fun _ => True) (m.new st0.next (b, 0)) st1.heap.get w := by
          refine ⟨?_, ?_, ?_, Nat.le_refl _, fun _ _ _ => rfl, ?_, ?_, ?_, hR.sv, ⟨rfl, rfl, rfl⟩, ?_, ?_⟩
          · intro r o _ ho v n hv
            obtain ⟨rfl, rfl, rfl, rfl⟩ := hvr r o v n ho hv
            refine ⟨(b, 0), hmb, cc, fz, hcc, hfz, by simp only [lentRoot]; omega, by omega, fun i x hi hx => ?_, by simp only [lentRoot, cond_false]; exact hcs⟩
            obtain ⟨u, hu1, hu2⟩ := denL_get t2 hx
            exact ⟨u, AV.den_mono hle x hu1, by simpa using hu2⟩
          · intro r r' o o' v n v' n' b1 b1' _ _ ho ho' hv hv' _ _ _
            obtain ⟨rfl, _⟩ := hvr r o v n ho hv
            obtain ⟨rfl, _⟩ := hvr r' o' v' n' ho' hv'
            rfl
          · intro r o v n rest _ ho hv v' hlt
            obtain ⟨rfl, rfl, rfl, rfl⟩ := hvr r o v n ho (by rw [hv]; simp)
            have : ¬ v' = 0 := by omega
            simp [Map.new, this, (hF st0.next trivial (Nat.le_refl _)).1]
          · intro r o v n b1 _ ho hv hb
            obtain ⟨rfl, rfl, rfl, rfl⟩ := hvr r o v n ho hv
            rw [hmb] at hb
            cases hb
            exact ⟨fun hl => (by simp [lentRoot] at hl), fun _ => rfl⟩
          · intro r o e _ ho hd
            rcases hup r o ho with ⟨h1, h2⟩ | ⟨h1, h2⟩
            · subst h2; simp [lentRoot] at hd
            · exact hR.dat r o e trivial h2 hd
          · intro r o e v fp r' o' u n b1 _ _ ho hd hm ho' hu hb hfpb
            obtain ⟨rfl, rfl, rfl, rfl⟩ := hvr r' o' u n ho' hu
            rw [hmb] at hb
            cases hb
            exact (hFP _ (hfp r v fp hm _ hfpb)).2 rfl
          · intro r o e v fp _ ho hd hm hro k hk
            exact .inl (hfp r v fp hm k hk)
          · intro r o e v n b1 _ ho hs hv hb
            obtain ⟨rfl, rfl, rfl, rfl⟩ := hvr r o v n ho hv
            simp [lentRoot] at hs
        have hF1 : Fresh (fun _ => True) (m.new st0.next (b, 0)) st1.next := by
          intro r _ hr
          rw [hnext] at hr
          have hr' : st0.next + 1 ≤ r := hr
          have : ¬ r = st0.next := by omega
          have h := hF r trivial (by omega)
          refine ⟨fun v => ?_, h.2⟩
          simp only [Map.new, this, false_and, if_false]
          exact h.1 v
        have hdenargs : denL (m.new st0.next (b, 0)) (.ptr st0.next 0 0 0 0 :: args0.take E.ins.length) = some (.pointer (some ⟨b, 0, none⟩) :: assemble E.ins us) := by
          simp [denL, AV.den, hmb, denL_mono hle _ t1]
        have hT := start_ok (f := f) (fn := fn) hdenargs hal
        have hnx : st1.next - 1 = st0.next := by rw [hnext]; simp
        obtain ⟨qs', q1, q2⟩ := reabs (B := B) ⟨hR1, hF1, hT⟩ hre (varFacts_ok (B := B) hk' fs' hvf') hcan
        have := isVars_ok (s := fun i => ps[i]?) (F := F) (ps := ps) es 0 hiv (by omega) (fun j p hp => hp)
        rw [List.drop_zero] at this
        simp only [B] at q1
        rw [this] at q1
        cases q1
        refine calls_of_wp_defers hfn hc (wp_mono (wp_of_flat (h B ps qs rfl hsp _ w q2)) ?_)
        rintro e a' w' ⟨he, sh', ps', es', ⟨x, st2, m1, hc1, hl1, hat⟩, hres, hev⟩
        simp only [resToP, hc1, Option.bind_some, Option.bind_eq_some_iff] at hres
        obtain ⟨⟨y, l1⟩, hy, ys, hys, ls, hls, o, ho, hres⟩ := hres
        split at hres
        · rename_i v n rest hvers
          simp only [Option.bind_eq_some_iff] at hres
          obtain ⟨⟨es2, l2⟩, hes2, hres⟩ := hres
          cases hv : (l1.V.isEmpty && l2.V.isEmpty && o.lent && !o.opn && Nat.beq n o.cells.length && Nat.beq n E.cells && Nat.beq o.elem E.elem) with
          | false => simp [hv] at hres
          | true =>
            simp only [hv, cond_true, Option.some.injEq] at hres
            subst hres
            simp only [Bool.and_eq_true, List.isEmpty_iff, Nat.beq_eq, Bool.not_eq_true'] at hv
            obtain ⟨⟨⟨⟨⟨⟨hv1, hv2⟩, hlent⟩, hop⟩, hnl⟩, hnE⟩, hel2⟩ := hv
            obtain ⟨vv, hvv, hrun⟩ := aResults_ok hy ⟨fun _ _ => trivial, fun f hf => by rw [hv1] at hf; cases hf⟩ hat.rel hat.tm
            obtain ⟨us', h1, h2, rfl⟩ := parts_ok hys hvv hls
            obtain ⟨b', hb', hB⟩ := hat.rel.blk 0 o trivial ho v n (by rw [hvers]; simp)
            have hmine : b'.1 = b := (hat.rel.abv 0 o v n b' trivial ho (by rw [hvers]; simp) hb').2 hlent
            obtain ⟨l, hd, hll, _, hlc⟩ := hB.cells (P := (default : Program)) (off := 0) (k := n) (by omega)
            have hca : cellsAt o 0 n = o.cells := by simp [cellsAt, hnl]
            rw [hca] at hd
            obtain ⟨c', fz', hcc', hfz', hn1, hn2, _, hsz'⟩ := hB
            simp only [hop, cond_false] at hsz'
            have hlc' : l = c'.toList := by
              apply List.ext_getElem?
              intro i
              by_cases hi : i < l.length
              · have := hlc i l[i] (List.getElem?_eq_getElem hi)
                simp only [World.cell?, hcc', Nat.zero_add] at this
                rw [List.getElem?_eq_getElem hi]
                simpa using this.symm
              · rw [List.getElem?_eq_none (by omega), List.getElem?_eq_none (by simp; omega)]
            subst hlc'
            obtain ⟨qs2, h3, h4, h5⟩ := resAll_ok hat.rel hes2 ⟨fun _ _ => trivial, fun f hf => by rw [hv2] at hf; cases hf⟩ (denL_append h1 hd)
            have h3' : evs (fun i => ps'[i]?) F es2 = some qs2 := h3
            rw [hev] at h3'
            cases h3'
            have hdef : a'.defers = [] := by
              have := hat.tm.defers
              have hx : x.defers = [] := by
                unfold canon at hc1
                simp only [Option.bind_eq_some_iff] at hc1
                obtain ⟨⟨xs, r⟩, _, ⟨css, r'⟩, _, hc1⟩ := hc1
                simp only [cond_eq_ite] at hc1
                split at hc1
                · cases hc1; rfl
                · cases hc1
              rw [hx] at this
              simpa [denD] using this.symm
            rw [hmine] at hcc'
            have fin : Leaves Try.prog fn a'.tmps (fun e w' => ∃ (us' : List Value) (c' : Array Value) (fz' : Nat × Nat) (ow : Nat → Option Nat), us'.length = shLen E.outs ∧ c'.size = E.cells ∧ qs.length = shLen E.outs + E.cells ∧ w'.heap[b]? = some (.cells c' E.elem fz') ∧ (∀ i, i < c'.size → ¬ (fz'.1 ≤ i ∧ i < fz'.2)) ∧ Owns w w' E.kinds qs (us' ++ c'.toList) ow ∧
                (∀ (i : Nat) (q : PV) (u : Value), qs[i]? = some q → (us' ++ c'.toList)[i]? = some u → ∀ w2 : World, (∀ k, FP k ∨ (w.heap.size ≤ k ∧ k < w'.heap.size) → (∀ j, j ≠ i → ow j ≠ some k) → w2.heap[k]? = w'.heap[k]?) → Reads w2 q u) ∧
                e = .returned (answer E.outs us') ∧ w'.os = w.os ∧ w'.tape = w.tape ∧ w'.output = w.output ∧ w.heap.size ≤ w'.heap.size ∧ ∀ k, k < w.heap.size → k ≠ b → w'.heap[k]? = w.heap[k]?) a'.defers .returning w' := by
              rw [hdef]
              have hll2 := denL_length (denL_append h1 hd)
              refine ⟨_, hrun, us', c', fz', fun _ => none, h2, by omega, by rw [h4, List.length_append, h2]; omega, by rw [← hel2]; exact hcc', hfz', owns_none hpl0, fun i q u hq hu w2 hw2 => h5 i q u _ hq hu (List.getElem?_eq_getElem (show i < (ls ++ o.cells).length by have := (List.getElem?_eq_some_iff.1 hu).1; omega)) w2 (fun k hk _ => hw2 k ?_ (fun _ _ h => by cases h)), rfl, hat.rel.same.1, hat.rel.same.2.1, hat.rel.same.2.2, hat.rel.size0, fun k hk hkb => hat.rel.amb k hk hkb⟩
              rcases hk.2 with h | h
              · exact .inl h
              · exact .inr ⟨h, hk.1⟩
            rcases he with rfl | rfl
            · exact fin
            · exact fin
        · cases hres
    · cases hread
  · cases hsh
end Go.Proofs.Ytfcdbknmajfkaaa.eng
