/- Texts joined: Eng25, Eng26, Eng27, Eng28, Eng29. -/
import Derived.Test.YtonebjgdhachcaaMrg3
section
/- The engine: contracts out of Zbn, of functions that Zby rows of their own. -/
namespace Go.Proofs.Ytonebjgdhachcaa.eng
open Go Go.RowKit
variable {W0 : Base}
set_option linter.unusedVariables false
set_option linter.unusedSimpArgs false

def okOwn (st : St) (k : CK) (x : AV) : Bool := match k with
 | .own el sz may => match x with
  | .sliceS r v lo len s => isC0 lo && Nat.beq s sz && (match lookS st r v with | some (_, el', sz') => Nat.beq el' el && Nat.beq sz' sz | none => false)
  | x => may && isNil x
 | _ => true
def Zgr (st : St) : List CK -> List AV -> Bool
 | k :: ks, x :: xs => okOwn st k x && Zgr st ks xs
 | [], [] => true
 | _, _ => false
theorem okOwns_at {st : St} : ∀ (ks : List CK) (xs : List AV), Zgr st ks xs = true -> ks.length = xs.length /\ ∀ (i : Nat) (k : CK) (x : AV), ks[i]? = some k -> xs[i]? = some x -> okOwn st k x = true
 | [], [], _ => ⟨rfl, fun i k x h => by simp at h⟩
 | [], _ :: _, h => by simp [Zgr] at h
 | _ :: _, [], h => by simp [Zgr] at h
 | k :: ks, x :: xs, h => by
  simp only [Zgr, Bool.and_eq_true] at h
  obtain ⟨h1, h2⟩ := okOwns_at ks xs h.2
  refine ⟨by simp [h1], fun i k' x' hk hx => ?_⟩
  cases i with
  | zero => simp at hk hx; subst hk; subst hx; exact h.1
  | succ i => exact h2 i k' x' (by simpa using hk) (by simpa using hx)
def clash (k : CK) (x : AV) (k' : CK) (x' : AV) : Bool := (!k.plain || !k'.plain) && (match Zj4 x, Zj4 x' with | some r, some r' => Nat.beq r r' | _, _ => false)
def Zjd : List CK -> List AV -> Bool
 | k :: ks, x :: xs => ((ks.zip xs).all fun t => !clash k x t.1 t.2) && Zjd ks xs
 | _, _ => true
theorem clash_no {k k' : CK} {x x' : AV} (h : clash k x k' x' = false) (hk : k.plain = false \/ k'.plain = false) {r : Nat} (h1 : Zj4 x = some r) (h2 : Zj4 x' = some r) : False := by
 unfold clash at h
 rw [h1, h2] at h
 rcases hk with hk | hk <;> simp [hk] at h
theorem Zkj : ∀ (ks : List CK) (xs : List AV), Zjd ks xs = true -> ∀ (i j : Nat) (k k' : CK) (x x' : AV), i ≠ j -> ks[i]? = some k -> xs[i]? = some x -> ks[j]? = some k' -> xs[j]? = some x' -> k.plain = false -> ∀ r, Zj4 x = some r -> Zj4 x' = some r -> False
 | [], _, _, i, j, k, k', x, x', _, hk, _, _, _, _, _, _, _ => by simp at hk
 | _ :: _, [], _, i, j, k, k', x, x', _, _, hx, _, _, _, _, _, _ => by simp at hx
 | k0 :: ks, x0 :: xs, h, i, j, k, k', x, x', hij, hk, hx, hk', hx', hp, r, hr, hr' => by
  simp only [Zjd, Bool.and_eq_true, List.all_eq_true] at h
  have zip_mem : ∀ (n : Nat) (a : CK) (b : AV), ks[n]? = some a -> xs[n]? = some b -> (a, b) ∈ ks.zip xs := fun n a b ha hb => List.mem_of_getElem? (i := n) (by rw [List.getElem?_zip_eq_some]; exact ⟨ha, hb⟩)
  cases i with
  | zero =>
   cases j with
   | zero => exact hij rfl
   | succ j =>
    simp at hk hx
    subst hk; subst hx
    have := h.1 _ (zip_mem j k' x' (by simpa using hk') (by simpa using hx'))
    simp only [Bool.not_eq_true'] at this
    exact clash_no this (.inl hp) hr hr'
  | succ i =>
   cases j with
   | zero =>
    simp at hk' hx'
    subst hk'; subst hx'
    have := h.1 _ (zip_mem i k x (by simpa using hk) (by simpa using hx))
    simp only [Bool.not_eq_true'] at this
    exact clash_no this (.inr hp) hr' hr
   | succ j => exact Zkj ks xs h.2 i j k k' x x' (by omega) (by simpa using hk) (by simpa using hx) (by simpa using hk') (by simpa using hx') hp r hr hr'
def posOf : List CK -> List AV -> Nat -> List Nat
 | .own _ _ true :: ks, .sliceS .. :: xs, i => i :: posOf ks xs (i + 1)
 | _ :: ks, _ :: xs, i => posOf ks xs (i + 1)
 | _, _, _ => []
theorem posOf_mem : ∀ (ks : List CK) (xs : List AV) (j i : Nat) {el : TypeId} {sz r v s : Nat} {lo len : SX}, ks[i]? = some (.own el sz true) -> xs[i]? = some (.sliceS r v lo len s) -> j + i ∈ posOf ks xs j
 | [], _, j, i, _, _, _, _, _, _, _, hk, _ => by simp at hk
 | _ :: _, [], j, i, _, _, _, _, _, _, _, _, hx => by simp at hx
 | k :: ks, x :: xs, j, i, el, sz, r, v, s, lo, len, hk, hx => by
  cases i with
  | zero =>
   simp at hk hx
   subst hk; subst hx
   simp [posOf]
  | succ i =>
   have ih := posOf_mem ks xs (j + 1) i (by simpa using hk) (by simpa using hx)
   rw [show j + (i + 1) = j + 1 + i by omega]
   unfold posOf
   split
   ·rename_i e1 e2; cases e1; cases e2; exact List.mem_cons_of_mem _ ih
   ·rename_i e1 e2; cases e1; cases e2; exact ih
   ·rename_i h1 h2; exact absurd rfl (h2 _ _ _ _ rfl)
theorem Zj5 {st : St} : ∀ {xs : List AV} {es : List SX} {lg : Log} {i : Nat} {x : AV}, Zea st xs = some (es, lg) -> xs[i]? = some x -> ∃ e l1, resSX st x = some (e, l1) /\ es[i]? = some e /\ ∀ A : Nat -> Prop, lg.Fits W0 A -> l1.Fits W0 A
 | [], es, lg, i, x, h, hx => by simp at hx
 | y :: ys, es, lg, i, x, h, hx => by
  simp only [Zea, Option.bind_eq_some_iff, Option.map_eq_some_iff] at h
  obtain ⟨⟨e, l1⟩, he, ⟨es', l2⟩, hes, h⟩ := h
  cases h
  cases i with
  | zero =>
   simp at hx
   subst hx
   exact ⟨e, l1, he, rfl, fun A hf => (or_A hf).1⟩
  | succ i =>
   obtain ⟨e', l', h1, h2, h3⟩ := Zj5 (i := i) hes (by simpa using hx)
   exact ⟨e', l', h1, by simpa using h2, fun A hf => h3 A (or_A hf).2⟩
theorem owns_of {m : Map} {st : St} {w' : World} (hR : Rel W0 (fun _ => True) m st.heap.get w') {ks : List CK} {ls : List AV} {es : List SX} {lg : Log} {us : List Value} {qs : List PV} (hok : Zgr st ks ls = true) (hap : Zjd ks ls = true) (hes : Zea st ls = some (es, lg)) (hA : lg.Fits W0 (fun _ => True)) (hus : denL m ls = some us) (hev : evs W0.s W0.F es = some qs) (hpos : ∀ i ∈ posOf ks ls 0, ∃ n cs, qs[i]? = some (.row (n + 1) cs)) :
  ∃ ow, Owns W0.w w' ks qs us ow /\ ∀ (i j : Nat) (x : AV) (k : Nat), ow j = some k -> j ≠ i -> ls[i]? = some x -> Zrg (fun _ => True) m st x k -> False := by
 obtain ⟨hkl, hat⟩ := okOwns_at ks ls hok
 let ow : Nat -> Option Nat := fun i => match ks[i]?, ls[i]? with | some (.own _ _ _), some (.sliceS r v _ _ _) => (m r v).map (·.1) | _, _ => none
 have how : ∀ i b, ow i = some b -> ∃ (el : TypeId) (sz : Nat) (may : Bool) (r v : Nat) (lo len : SX) (s : Nat) (b' : Nat × Nat), ks[i]? = some (.own el sz may) /\ ls[i]? = some (.sliceS r v lo len s) /\ m r v = some b' /\ b'.1 = b := by
  intro i b h
  simp only [ow] at h
  split at h
  ·rename_i h1 h2
   rw [Option.map_eq_some_iff] at h
   obtain ⟨b', h3, h4⟩ := h
   exact ⟨_, _, _, _, _, _, _, _, b', h1, h2, h3, h4⟩
  ·cases h
 have full : ∀ (i : Nat) (el : TypeId) (sz : Nat) (may : Bool) (r v : Nat) (lo len : SX) (s : Nat) (b' : Nat × Nat), ks[i]? = some (.own el sz may) -> ls[i]? = some (.sliceS r v lo len s) -> m r v = some b' -> ∃ (q : PV) (u : Value) (o : ARoot), qs[i]? = some q /\ us[i]? = some u /\ OwnAt W0.w w' el sz b'.1 q u /\ (may = true -> ∃ n cs, q = .row (n + 1) cs) /\ st.heap.get r = some o /\ (v, 0) ∈ o.vers := by
  intro i el sz may r v lo len s b' hk hl hb
  have h0 := hat i _ _ hk hl
  simp only [okOwn, Bool.and_eq_true, Nat.beq_eq] at h0
  obtain ⟨⟨hc, hs⟩, h0⟩ := h0
  obtain ⟨u, hu1, hu2⟩ := Zbb hus hl
  obtain ⟨e, l1, g1, g2, g3⟩ := Zj5 (W0 := W0) hes hl
  obtain ⟨p, p1, p2⟩ := Zq8 hev g2
  cases hlk : lookS st r v with
  | none => simp [hlk] at h0
  | some t =>
   obtain ⟨e', el', sz'⟩ := t
   rw [hlk] at h0
   simp only [Bool.and_eq_true, Nat.beq_eq] at h0
   obtain ⟨rfl, rfl⟩ := h0
   subst hs
   simp only [resSX, hlk, Option.bind_some, hc, Nat.beq_refl, Bool.and_self, cond_true, Option.some.injEq, Prod.mk.injEq] at g1
   obtain ⟨rfl, rfl⟩ := g1
   have hf := g3 _ hA
   obtain ⟨b, n, cs, k1, k2, rfl, k4, k5, _⟩ := Zmh hR hlk hc trivial (Zl9 hR hlk trivial hu1 (or_A hf).2) hu1
   rw [hb] at k1
   cases k1
   obtain ⟨n', cs', c, fz, j1, j2, j3, j4, j5, j6, j7, j8, j9⟩ := Zbi hlk hR trivial hb
   rw [k2] at j1
   cases j1
   have hp : p = .row n cs := by
    have : e'.ev W0.s W0.F = some (.row n cs) := k2
    rw [p1] at this
    exact Option.some.inj this
   subst hp
   obtain ⟨o, ho, _, hvs, _⟩ := Ze4 hlk
   refine ⟨_, _, o, p2, hu2, ⟨k4, k5, n, b'.2, cs, c, fz, rfl, rfl, j2, j3, j4, j5, j6, j7, j8, j9⟩, fun hm => ?_, ho, by rw [hvs]; simp⟩
   subst hm
   obtain ⟨n2, cs2, h2⟩ := hpos _ (by have := posOf_mem ks ls 0 i hk hl; rwa [Nat.zero_add] at this)
   rw [p2] at h2
   exact ⟨n2, cs2, Option.some.inj h2⟩
 refine ⟨ow, ⟨?_, ?_, ?_⟩, ?_⟩
 ·intro i b h
  obtain ⟨el, sz, may, r, v, lo, len, s, b', h1, h2, h3, rfl⟩ := how i b h
  obtain ⟨q, u, o, g1, g2, g3, g4, _⟩ := full i el sz may r v lo len s b' h1 h2 h3
  exact ⟨el, sz, may, q, u, h1, g1, g2, g3, g4⟩
 ·intro i el sz may hk hno
  have hi : i < ls.length := by have := (List.getElem?_eq_some_iff.1 hk).1; omega
  have hl := List.getElem?_eq_getElem hi
  generalize ls[i] = x at hl
  have h0 := hat i _ _ hk hl
  obtain ⟨u, hu1, hu2⟩ := Zbb hus hl
  obtain ⟨e, l1, g1, g2, g3⟩ := Zj5 (W0 := W0) hes hl
  obtain ⟨p, p1, p2⟩ := Zq8 hev g2
  unfold okOwn at h0
  simp only at h0
  split at h0
  ·rename_i r v lo len s
   exfalso
   simp only [AV.den, Option.bind_eq_some_iff] at hu1
   obtain ⟨b', hb', _⟩ := hu1
   simp [ow, hk, hl, hb'] at hno
  ·simp only [Bool.and_eq_true] at h0
   have := isNil_ok h0.2
   subst this
   simp only [AV.den, Option.some.injEq] at hu1
   subst hu1
   simp only [resSX, Zh2, Option.bind_some, cond_true, Option.some.injEq, Prod.mk.injEq] at g1
   obtain ⟨rfl, _⟩ := g1
   simp only [SX.ev, evs, Option.map_some, Option.some.injEq] at p1
   subst p1
   exact ⟨h0.1, hu2, p2⟩
 ·intro i j b hi hj
  obtain ⟨el, sz, may, r, v, lo, len, s, b', h1, h2, h3, h4⟩ := how i b hi
  obtain ⟨el', sz', may', r', v', lo', len', s', b'', k1, k2, k3, k4⟩ := how j b hj
  refine Classical.byContradiction fun hne => ?_
  obtain ⟨_, _, o, _, _, _, _, f1, f2⟩ := full i el sz may r v lo len s b' h1 h2 h3
  obtain ⟨_, _, o', _, _, _, _, f3, f4⟩ := full j el' sz' may' r' v' lo' len' s' b'' k1 k2 k3
  have := hR.inj r r' o o' v 0 v' 0 b' b'' trivial trivial f1 f3 f2 f4 h3 k3 (h4.trans k4.symm)
  subst this
  exact Zkj ks ls hap i j _ _ _ _ hne h1 h2 k1 k2 rfl r rfl rfl
 ·intro i j x k hj hne hx hno
  obtain ⟨el, sz, may, r, v, lo, len, s, b', h1, h2, h3, h4⟩ := how j k hj
  obtain ⟨_, _, o, _, _, _, _, f1, f2⟩ := full j el sz may r v lo len s b' h1 h2 h3
  have hr := hno r o v 0 b' trivial f1 f2 h3 h4
  have hi : i < ks.length := by have := (List.getElem?_eq_some_iff.1 hx).1; omega
  exact Zkj ks ls hap j i _ _ _ _ hne h1 h2 (List.getElem?_eq_getElem hi) hx rfl r rfl hr
def resToO (P : Program) (fn : Func) (sh : Shape) (E : FnE) : Option (List SX × List Nat) := (canon sh []).bind fun (x, st) => (Zeg P fn x st).bind fun (y, l1) => (Zgy E.outs y).bind fun ys => (Zbe E.outs ys).bind fun ls => (Zea st ls).bind fun (es, l2) => cond (l1.V.isEmpty && l2.V.isEmpty && Zgr st E.kinds ls && Zjd E.kinds ls) (some (es, posOf E.kinds ls 0)) none
theorem Zjg {f : FuncId} {E : FnE} {spec : List PV -> Option (List PV)} (F : Fns) (fn : Func) (c : Code) (hfn : Try.prog.funcs[f]? = some fn) (hc : fn.body = some c) (sh0 : Shape) (hsh : Zgu E fn f sh0 = true)
  (hk : ∀ ps qs, spec ps = some qs -> ∀ i : Nat, sh0.rows[i]? = some none -> ∃ x, ps[i]? = some (.v x) /\ x.oneCell' = true)
  (h : ∀ (C : Base) ps qs, C.F = F -> spec ps = some qs -> ∀ a w, Zah C sh0 ps a w -> wpL Try.prog (flat c) (fun e a' w' => (e = .normal \/ e = .ret) /\ ∃ sh' ps' es pos, Zah C sh' ps' a' w' /\ resToO Try.prog fn sh' E = some (es, pos) /\ evs (fun i => ps'[i]?) F es = some qs /\ ∀ i ∈ pos, ∃ n cs, qs[i]? = some (.row (n + 1) cs)) a w) : ToldF f E spec := by
 intro w FP us ps qs hsp hul hpl hFP hrd
 unfold Zgu at hsh
 split at hsh
 ·rename_i args st fs hst
  simp only [Bool.and_eq_true, Nat.blt_eq, Nat.beq_eq] at hsh
  obtain ⟨⟨⟨⟨hal, hrl⟩, hcan⟩, hvf⟩, hread⟩ := hsh
  split at hread
  ·rename_i es fs' hre
   simp only [Bool.and_eq_true, Nat.beq_eq] at hread
   obtain ⟨⟨hiv, hel⟩, hvf'⟩ := hread
   have hk' := hk ps qs hsp
   obtain ⟨m, hR, hF, hargs, hv0, _⟩ := Zdu (F := F) hst hul hpl hFP hrd (Zbc (B := ⟨w, fun i => ps[i]?, F, FP, fun _ => False⟩) hk' fs hvf)
   have hT := Zd8 (f := f) (fn := fn) hargs hal
   obtain ⟨qs', q1, q2⟩ := reabs (B := ⟨w, fun i => ps[i]?, F, FP, fun _ => False⟩) ⟨hR, hF, hT⟩ hre (Zbc (B := ⟨w, fun i => ps[i]?, F, FP, fun _ => False⟩) hk' fs' hvf') hcan
   have := Zd1 (s := fun i => ps[i]?) (F := F) (ps := ps) es 0 hiv (by omega) (fun j p hp => hp)
   rw [List.drop_zero] at this
   simp only at q1
   rw [this] at q1
   cases q1
   refine calls_of_wp_defers hfn hc (wp_mono (Zbu (h _ ps qs rfl hsp _ w q2)) ?_)
   rintro e a' w' ⟨he, sh', ps', es', pos, ⟨x, st1, m1, hc1, hl1, hat⟩, hres, hev, hpos⟩
   simp only [resToO, hc1, Option.bind_some, Option.bind_eq_some_iff] at hres
   obtain ⟨⟨y, l1⟩, hy, ys, hys, ls, hls, ⟨es2, l2⟩, hes2, hres⟩ := hres
   cases hv : (l1.V.isEmpty && l2.V.isEmpty && Zgr st1 E.kinds ls && Zjd E.kinds ls) with
   | false => simp [hv] at hres
   | true =>
    simp only [hv, cond_true, Option.some.injEq, Prod.mk.injEq] at hres
    obtain ⟨rfl, rfl⟩ := hres
    simp only [Bool.and_eq_true, List.isEmpty_iff] at hv
    obtain ⟨⟨hv, hoo⟩, hap⟩ := hv
    obtain ⟨v, hvv, hrun⟩ := Zb4 hy ⟨fun _ _ => trivial, fun f hf => by rw [hv.1] at hf; cases hf⟩ hat.rel hat.tm
    obtain ⟨us', h1, h2, rfl⟩ := Ze2 hys hvv hls
    obtain ⟨qs2, h3, h4, h5⟩ := Zde hat.rel hes2 ⟨fun _ _ => trivial, fun f hf => by rw [hv.2] at hf; cases hf⟩ h1
    have h3' : evs (fun i => ps'[i]?) F es2 = some qs2 := h3
    rw [hev] at h3'
    cases h3'
    obtain ⟨ow, how, hcl⟩ := owns_of hat.rel hoo hap hes2 ⟨fun _ _ => trivial, fun f hf => by rw [hv.2] at hf; cases hf⟩ h1 h3 hpos
    have hdef : a'.defers = [] := by
     have := hat.tm.defers
     have hx : x.defers = [] := by
      unfold canon at hc1
      simp only [Option.bind_eq_some_iff] at hc1
      obtain ⟨⟨xs, r⟩, _, ⟨css, r'⟩, _, hc1⟩ := hc1
      simp only [cond_eq_ite] at hc1
      split at hc1
      ·cases hc1; rfl
      ·cases hc1
     rw [hx] at this
     simpa [denD] using this.symm
    have fin : Leaves Try.prog fn a'.tmps (fun e w' => ∃ (us' : List Value) (ow : Nat -> Option Nat), us'.length = qs.length /\ qs.length = shLen E.outs /\ Owns w w' E.kinds qs us' ow /\ (∀ (i : Nat) (q : PV) (u : Value), qs[i]? = some q -> us'[i]? = some u -> ∀ w2 : World, (∀ k, FP k \/ (w.heap.size <= k /\ k < w'.heap.size) -> (∀ j, j ≠ i -> ow j ≠ some k) -> w2.heap[k]? = w'.heap[k]?) -> Reads w2 q u) /\ e = .returned (Zby E.outs us') /\ Ex w w') a'.defers .returning w' := by
     rw [hdef]
     have hll := Zak h1
     refine ⟨_, hrun, us', ow, h4.symm, by omega, how, fun i q u hq hu w2 hw2 => h5 i q u _ hq hu (List.getElem?_eq_getElem (show i < ls.length by have := (List.getElem?_eq_some_iff.1 hu).1; omega)) w2 (fun k hk hnr => hw2 k ?_ (fun j hj hjk => hcl i j _ k hjk hj (List.getElem?_eq_getElem (show i < ls.length by have := (List.getElem?_eq_some_iff.1 hu).1; omega)) hnr)), rfl, ⟨hat.rel.same.1, hat.rel.same.2.1, hat.rel.same.2.2, hat.rel.size0, fun k hk => hat.rel.amb k hk (fun h => h)⟩⟩
     rcases hk.2 with h | h
     ·exact .inl h
     ·exact .inr ⟨h, hk.1⟩
    rcases he with rfl | rfl
    ·exact fin
    ·exact fin
  ·cases hread
 ·cases hsh

def resToPO (P : Program) (fn : Func) (sh : Shape) (E : PtrE) : Option (List SX × List Nat) := (canon sh []).bind fun (x, st) => (Zeg P fn x st).bind fun (y, l1) => (Zgy E.outs y).bind fun ys => (Zbe E.outs ys).bind fun ls => (getC st 0).bind fun o => match o.vers with
 | (v, n) :: _ => (Zea st (ls ++ o.cells)).bind fun (es, l2) => cond (l1.V.isEmpty && l2.V.isEmpty && o.lent && !o.opn && Nat.beq n o.cells.length && Nat.beq n E.cells && Nat.beq o.elem E.elem && Zgr st E.kinds (ls ++ o.cells) && Zjd E.kinds (ls ++ o.cells)) (some (es, posOf E.kinds (ls ++ o.cells) 0)) none
 | [] => none
theorem told_ptrO {f : FuncId} {E : PtrE} {spec : List PV -> Option (List PV)} (F : Fns) (fn : Func) (c : Code) (hfn : Try.prog.funcs[f]? = some fn) (hc : fn.body = some c) (sh0 : Shape) (hsh : Ze0 E fn f sh0 = true)
  (hk : ∀ ps qs, spec ps = some qs -> ∀ i : Nat, sh0.rows[i]? = some none -> ∃ x, ps[i]? = some (.v x) /\ x.oneCell' = true)
  (h : ∀ (C : Base) ps qs, C.F = F -> spec ps = some qs -> ∀ a w, Zah C sh0 ps a w -> wpL Try.prog (flat c) (fun e a' w' => (e = .normal \/ e = .ret) /\ ∃ sh' ps' es pos, Zah C sh' ps' a' w' /\ resToPO Try.prog fn sh' E = some (es, pos) /\ evs (fun i => ps'[i]?) F es = some qs /\ ∀ i ∈ pos, ∃ n cs, qs[i]? = some (.row (n + 1) cs)) a w) : ToldP f E spec := by
 intro w FP b cc fz us ps qs hsp hul hpl hcs hcc hfz hFP hrd
 unfold Ze0 at hsh
 split at hsh
 ·rename_i args st fs hst
  simp only [Bool.and_eq_true, Nat.blt_eq, Nat.beq_eq] at hsh
  obtain ⟨⟨⟨⟨hal, hrl⟩, hcan⟩, hvf⟩, hread⟩ := hsh
  split at hread
  ·rename_i es fs' hre
   simp only [Bool.and_eq_true, Nat.beq_eq] at hread
   obtain ⟨⟨hiv, hel⟩, hvf'⟩ := hread
   have hk' := hk ps qs hsp
   let B : Base := ⟨w, fun i => ps[i]?, F, FP, fun k => k = b⟩
   simp only [Zrb, Option.bind_eq_some_iff] at hst
   obtain ⟨⟨args0, st0, fs0⟩, hst0, hst⟩ := hst
   cases hlen : Nat.beq args0.length (E.ins.length + E.cells) with
   | false => simp [hlen] at hst
   | true =>
    simp only [hlen, cond_true, Option.map_eq_some_iff, Prod.mk.injEq] at hst
    obtain ⟨st1, hput, rfl, rfl, rfl⟩ := hst
    have hlen := Nat.eq_of_beq_eq_true hlen
    have hcl : cc.toList.length = E.cells := by simpa using hcs
    have hall : shLen E.all.ins = shLen E.ins + E.cells := by simp [PtrE.all, Zfm, Zgv]
    obtain ⟨m, hR, hF, hargs, hv0, hfps⟩ := Zdu (F := F) (X := fun k => k = b) (us := us ++ cc.toList) (ps := ps) hst0 (by simp [hul, hpl, hcl]) (by rw [hall]; exact hpl) (fun k hk => (hFP k hk).1)
     (fun i p u hp hu => ⟨hrd i p u hp hu w (fun _ _ => rfl), fun _ w2 hw2 => hrd i p u hp hu w2 hw2⟩) (Zbc (B := B) hk' fs0 hvf)
    have hfp : ∀ r v fp, m.d r = some (v, fp) -> ∀ k, fp k -> FP k := fun r v fp hm k hk => by
     rcases hfps r v fp hm k hk with h | ⟨x, hx, hl⟩
     ·exact h
     ·exfalso
      have hx' : x < shLen E.ins + E.cells := by simp [hul, hcl] at hx; omega
      simp [PtrE.all, List.getD, List.getElem?_replicate, hx'] at hl
    have hasm : Zau E.all.ins (us ++ cc.toList) = Zau E.ins us ++ cc.toList := by
     simp only [PtrE.all]
     rw [Zdi _ _ _ _ hul, <- hcl, Zda]
    rw [hasm] at hargs
    have hail := Zdh E.ins us hul
    have t1 := Zbs E.ins.length hargs
    have t2 := Zbt E.ins.length hargs
    rw [<- hail, List.take_left' rfl, hail] at t1
    rw [<- hail, List.drop_left' rfl, hail] at t2
    obtain ⟨hpt, hnext⟩ := put_ok hput
    have hblt : b < w.heap.size := by
     rcases Nat.lt_or_ge b w.heap.size with h | h
     ·exact h
     ·rw [Array.getElem?_eq_none h] at hcc; cases hcc
    have hcells : (args0.drop E.ins.length).length = E.cells := by simp; omega
    have hle : m.Le (m.new st0.next (b, 0)) := ⟨fun r v x hx => by
     show (if r = st0.next /\ v = 0 then some (b, 0) else m r v) = some x
     split
     ·rename_i e
      rw [e.1, (hF st0.next trivial (Nat.le_refl _)).1 v] at hx
      cases hx
     ·exact hx, fun _ _ h => h, fun _ _ h => h⟩
    have hup : ∀ r o, st1.heap.get r = some o -> (r = st0.next /\ o = Za4 E (args0.drop E.ins.length)) \/ (r ≠ st0.next /\ st0.heap.get r = some o) := fun r o ho => by
     rw [hpt] at ho
     by_cases hr : r = st0.next
     ·simp [Heap.upd, hr] at ho; exact .inl ⟨hr, ho.symm⟩
     ·simp [Heap.upd, hr] at ho; exact .inr ⟨hr, ho⟩
    have hvr : ∀ r o v n, st1.heap.get r = some o -> (v, n) ∈ o.vers -> r = st0.next /\ o = Za4 E (args0.drop E.ins.length) /\ v = 0 /\ n = E.cells := fun r o v n ho hv => by
     rcases hup r o ho with ⟨h1, h2⟩ | ⟨h1, h2⟩
     ·subst h2
      simp only [Za4, List.mem_singleton, Prod.mk.injEq] at hv
      exact ⟨h1, rfl, hv.1, hv.2⟩
     ·rw [hv0 r o h2] at hv; cases hv
    have hmb : (m.new st0.next (b, 0)) st0.next 0 = some (b, 0) := by simp [Map.new]
    have hR1 : Rel B (fun _ => True) (m.new st0.next (b, 0)) st1.heap.get w := by
     refine ⟨?_, ?_, ?_, Nat.le_refl _, fun _ _ _ => rfl, ?_, ?_, ?_, hR.sv, ⟨rfl, rfl, rfl⟩, ?_, ?_⟩
     ·intro r o _ ho v n hv
      obtain ⟨rfl, rfl, rfl, rfl⟩ := hvr r o v n ho hv
      refine ⟨(b, 0), hmb, cc, fz, hcc, hfz, by simp only [Za4]; omega, by omega, fun i x hi hx => ?_, by simp only [Za4, cond_false]; exact hcs⟩
      obtain ⟨u, hu1, hu2⟩ := Zbb t2 hx
      exact ⟨u, AV.den_mono hle x hu1, by simpa using hu2⟩
     ·intro r r' o o' v n v' n' b1 b1' _ _ ho ho' hv hv' _ _ _
      obtain ⟨rfl, _⟩ := hvr r o v n ho hv
      obtain ⟨rfl, _⟩ := hvr r' o' v' n' ho' hv'
      rfl
     ·intro r o v n rest _ ho hv v' hlt
      obtain ⟨rfl, rfl, rfl, rfl⟩ := hvr r o v n ho (by rw [hv]; simp)
      have : ¬ v' = 0 := by omega
      simp [Map.new, this, (hF st0.next trivial (Nat.le_refl _)).1]
     ·intro r o v n b1 _ ho hv hb
      obtain ⟨rfl, rfl, rfl, rfl⟩ := hvr r o v n ho hv
      rw [hmb] at hb
      cases hb
      exact ⟨fun hl => (by simp [Za4] at hl), fun _ => rfl⟩
     ·intro r o e _ ho hd
      rcases hup r o ho with ⟨h1, h2⟩ | ⟨h1, h2⟩
      ·subst h2; simp [Za4] at hd
      ·exact hR.dat r o e trivial h2 hd
     ·intro r o e v fp r' o' u n b1 _ _ ho hd hm ho' hu hb hfpb
      obtain ⟨rfl, rfl, rfl, rfl⟩ := hvr r' o' u n ho' hu
      rw [hmb] at hb
      cases hb
      exact (hFP _ (hfp r v fp hm _ hfpb)).2 rfl
     ·intro r o e v fp _ ho hd hm hro k hk
      exact .inl (hfp r v fp hm k hk)
     ·intro r o e v n b1 _ ho hs hv hb
      obtain ⟨rfl, rfl, rfl, rfl⟩ := hvr r o v n ho hv
      simp [Za4] at hs
    have hF1 : Fresh (fun _ => True) (m.new st0.next (b, 0)) st1.next := by
     intro r _ hr
     rw [hnext] at hr
     have hr' : st0.next + 1 <= r := hr
     have : ¬ r = st0.next := by omega
     have h := hF r trivial (by omega)
     refine ⟨fun v => ?_, h.2⟩
     simp only [Map.new, this, false_and, if_false]
     exact h.1 v
    have hdenargs : denL (m.new st0.next (b, 0)) (.ptr st0.next 0 0 0 0 :: args0.take E.ins.length) = some (.pointer (some ⟨b, 0, none⟩) :: Zau E.ins us) := by
     simp [denL, AV.den, hmb, Zb7 hle _ t1]
    have hT := Zd8 (f := f) (fn := fn) hdenargs hal
    have hnx : st1.next - 1 = st0.next := by rw [hnext]; simp
    obtain ⟨qs', q1, q2⟩ := reabs (B := B) ⟨hR1, hF1, hT⟩ hre (Zbc (B := B) hk' fs' hvf') hcan
    have := Zd1 (s := fun i => ps[i]?) (F := F) (ps := ps) es 0 hiv (by omega) (fun j p hp => hp)
    rw [List.drop_zero] at this
    simp only [B] at q1
    rw [this] at q1
    cases q1
    refine calls_of_wp_defers hfn hc (wp_mono (Zbu (h B ps qs rfl hsp _ w q2)) ?_)
    rintro e a' w' ⟨he, sh', ps', es', pos, ⟨x, st2, m1, hc1, hl1, hat⟩, hres, hev, hpos⟩
    simp only [resToPO, hc1, Option.bind_some, Option.bind_eq_some_iff] at hres
    obtain ⟨⟨y, l1⟩, hy, ys, hys, ls, hls, o, ho, hres⟩ := hres
    obtain ⟨ho, hmp⟩ := Ze7 ho
    split at hres
    ·rename_i v n rest hvers
     simp only [Option.bind_eq_some_iff] at hres
     obtain ⟨⟨es2, l2⟩, hes2, hres⟩ := hres
     cases hv : (l1.V.isEmpty && l2.V.isEmpty && o.lent && !o.opn && Nat.beq n o.cells.length && Nat.beq n E.cells && Nat.beq o.elem E.elem && Zgr st2 E.kinds (ls ++ o.cells) && Zjd E.kinds (ls ++ o.cells)) with
     | false => simp [hv] at hres
     | true =>
      simp only [hv, cond_true, Option.some.injEq, Prod.mk.injEq] at hres
      obtain ⟨rfl, rfl⟩ := hres
      simp only [Bool.and_eq_true, List.isEmpty_iff, Nat.beq_eq, Bool.not_eq_true'] at hv
      obtain ⟨⟨hv, hoo⟩, hap⟩ := hv
      obtain ⟨⟨⟨⟨⟨⟨hv1, hv2⟩, hlent⟩, hop⟩, hnl⟩, hnE⟩, hel2⟩ := hv
      obtain ⟨vv, hvv, hrun⟩ := Zb4 hy ⟨fun _ _ => trivial, fun f hf => by rw [hv1] at hf; cases hf⟩ hat.rel hat.tm
      obtain ⟨us', h1, h2, rfl⟩ := Ze2 hys hvv hls
      obtain ⟨b', hb', hB⟩ := hat.rel.blkC 0 o trivial ho hmp v n (by rw [hvers]; simp)
      have hmine : b'.1 = b := (hat.rel.abv 0 o v n b' trivial ho (by rw [hvers]; simp) hb').2 hlent
      obtain ⟨l, hd, hll, _, hlc⟩ := hB.cells (P := (default : Program)) (off := 0) (k := n) (by omega)
      have hca : Za8 o 0 n = o.cells := by simp [Za8, hnl]
      rw [hca] at hd
      obtain ⟨c', fz', hcc', hfz', hn1, hn2, _, hsz'⟩ := hB
      simp only [hop, cond_false] at hsz'
      have hlc' : l = c'.toList := by
       apply List.ext_getElem?
       intro i
       by_cases hi : i < l.length
       ·have := hlc i l[i] (List.getElem?_eq_getElem hi)
        simp only [World.cell?, hcc', Nat.zero_add] at this
        rw [List.getElem?_eq_getElem hi]
        simpa using this.symm
       ·rw [List.getElem?_eq_none (by omega), List.getElem?_eq_none (by simp; omega)]
      subst hlc'
      obtain ⟨qs2, h3, h4, h5⟩ := Zde hat.rel hes2 ⟨fun _ _ => trivial, fun f hf => by rw [hv2] at hf; cases hf⟩ (Zas h1 hd)
      have h3' : evs (fun i => ps'[i]?) F es2 = some qs2 := h3
      rw [hev] at h3'
      cases h3'
      obtain ⟨ow, how, hcl⟩ := owns_of hat.rel hoo hap hes2 ⟨fun _ _ => trivial, fun f hf => by rw [hv2] at hf; cases hf⟩ (Zas h1 hd) h3 hpos
      have hdef : a'.defers = [] := by
       have := hat.tm.defers
       have hx : x.defers = [] := by
        unfold canon at hc1
        simp only [Option.bind_eq_some_iff] at hc1
        obtain ⟨⟨xs, r⟩, _, ⟨css, r'⟩, _, hc1⟩ := hc1
        simp only [cond_eq_ite] at hc1
        split at hc1
        ·cases hc1; rfl
        ·cases hc1
       rw [hx] at this
       simpa [denD] using this.symm
      rw [hmine] at hcc'
      have fin : Leaves Try.prog fn a'.tmps (fun e w' => ∃ (us' : List Value) (c' : Array Value) (fz' : Nat × Nat) (ow : Nat -> Option Nat), us'.length = shLen E.outs /\ c'.size = E.cells /\ qs.length = shLen E.outs + E.cells /\ w'.heap[b]? = some (.cells c' E.elem fz') /\ (∀ i, i < c'.size -> ¬ (fz'.1 <= i /\ i < fz'.2)) /\ Owns w w' E.kinds qs (us' ++ c'.toList) ow ∧
        (∀ (i : Nat) (q : PV) (u : Value), qs[i]? = some q -> (us' ++ c'.toList)[i]? = some u -> ∀ w2 : World, (∀ k, FP k \/ (w.heap.size <= k /\ k < w'.heap.size) -> (∀ j, j ≠ i -> ow j ≠ some k) -> w2.heap[k]? = w'.heap[k]?) -> Reads w2 q u) ∧
        e = .returned (Zby E.outs us') /\ w'.os = w.os /\ w'.tape = w.tape /\ w'.output = w.output /\ w.heap.size <= w'.heap.size /\ ∀ k, k < w.heap.size -> k ≠ b -> w'.heap[k]? = w.heap[k]?) a'.defers .returning w' := by
       rw [hdef]
       have hll2 := Zak (Zas h1 hd)
       refine ⟨_, hrun, us', c', fz', ow, h2, by omega, by rw [h4, List.length_append, h2]; omega, by rw [<- hel2]; exact hcc', hfz', how, fun i q u hq hu w2 hw2 => h5 i q u _ hq hu (List.getElem?_eq_getElem (show i < (ls ++ o.cells).length by have := (List.getElem?_eq_some_iff.1 hu).1; omega)) w2 (fun k hk hnr => hw2 k ?_ (fun j hj hjk => hcl i j _ k hjk hj (List.getElem?_eq_getElem (show i < (ls ++ o.cells).length by have := (List.getElem?_eq_some_iff.1 hu).1; omega)) hnr)), rfl, hat.rel.same.1, hat.rel.same.2.1, hat.rel.same.2.2, hat.rel.size0, fun k hk hkb => hat.rel.amb k hk hkb⟩
       rcases hk.2 with h | h
       ·exact .inl h
       ·exact .inr ⟨h, hk.1⟩
      rcases he with rfl | rfl
      ·exact fin
      ·exact fin
    ·cases hres
  ·cases hread
 ·cases hsh
end Go.Proofs.Ytonebjgdhachcaa.eng
end

section
/- The engine: functions that may panic, by contract. -/
namespace Go.Proofs.Ytonebjgdhachcaa.eng
open Go Go.RowKit
variable {W0 : Base}
set_option linter.unusedVariables false
set_option linter.unusedSimpArgs false

def callX (f : FuncId) (E : FnE) (pans : List Value) (args : List AV) (st : St) : Option (ARet × St × Log) := (Zbe E.ins args).bind fun ls => (Zii st ls E.leaks).bind fun (es, lA) => match st.path with
 | 0 :: p => (outD (fun j => .fn E.k es (j + 1)) E.kinds 0 st.next (st.next + (Zat E.kinds 0).length) p).bind fun (cs, fs, p', os) =>
  cond (Nat.blt (st.next + (Zat E.kinds 0).length + os.length) 16777215 && Nat.beq E.kinds.length (shLen E.outs))
   (some (.ret (Zio E.outs cs), resSt { st with path := p } (fun j => .fn E.k es (j + 1)) E.kinds p' os, ⟨lA.A ||| Zcb st E.kinds os, Zcb st E.kinds os, .fx f E pans es :: .is (.fn E.k es 0) (.int .i64 0) :: (lA.V ++ fs)⟩)) none
 | (j + 1) :: p => cond (Nat.blt st.next 16777215) ((pans[j]?).map fun v => (.pan v, { st with path := p }, ⟨lA.A, 0, .fx f E pans es :: .is (.fn E.k es 0) (.int .i64 ((j + 1 : Nat) : Int)) :: lA.V⟩)) none
 | [] => none
def orcX (tab : FuncId -> Option (FnE × List Value)) : Orc := fun f args st => (tab f).bind fun E => callX f E.1 E.2 args st
theorem callX_ok {f : FuncId} {E : FnE} {pans : List Value} {args : List AV} {st st' : St} {r : ARet} {lg : Log} (hr : callX f E pans args st = some (r, st', lg)) (W0 : Base) (A : Nat -> Prop) (m : Map) (w : World) (vs : List Value) (hA : lg.Fits W0 A) (hR : Rel W0 A m st.heap.get w) (hF : Fresh A m st.next) (hvs : denL m args = some vs) :
  Calls Try.prog f vs.toArray w (CPost W0 A m st w r st' lg) := by
 simp only [callX, Option.bind_eq_some_iff] at hr
 obtain ⟨ls, hls, ⟨es, lA⟩, hes, hr⟩ := hr
 split at hr
 ·rename_i p hpath
  simp only [Option.bind_eq_some_iff] at hr
  obtain ⟨⟨cs, fs, p', os⟩, hout, hr⟩ := hr
  cases hc : (Nat.blt (st.next + (Zat E.kinds 0).length + os.length) 16777215 && Nat.beq E.kinds.length (shLen E.outs)) with
  | false => simp [hc] at hr
  | true =>
   simp only [hc, cond_true, Option.some.injEq, Prod.mk.injEq] at hr
   obtain ⟨rfl, rfl, rfl⟩ := hr
   simp only [Bool.and_eq_true, Nat.blt_eq, Nat.beq_eq] at hc
   have hlA : lA.Fits W0 A := ⟨fun r hr => hA.1 r (Zaw hr), fun f hf => hA.2 f (by simp [hf])⟩
   obtain ⟨us, hus, hul, rfl⟩ := Zcm E.ins args hls hvs
   obtain ⟨ps, hps, hpl, hrd⟩ := Zf7 hR hes hlA hus
   obtain ⟨htold, ps', qs, hps', hqs⟩ := hA.2 (.fx f E pans es) (by simp)
   rw [hps] at hps'
   cases hps'
   have h0 : W0.ev (.fn E.k es 0) = some (.v (.int .i64 0)) := hA.2 (.is (.fn E.k es 0) (.int .i64 0)) (by simp)
   have hev : ∀ i q, qs[i]? = some q -> W0.ev (.fn E.k es i) = some q := fun i q hq => by simp [Base.ev, SX.ev, hps, hqs, hq]
   refine (htold w (May W0 A m st w) us ps qs hqs hpl.symm (by omega) (fun k hk => hk.1) hrd).mono ?_
   rintro e w' (⟨qs', rfl, us', ow, h1, h2, how, h3, rfl, hex⟩ | ⟨j, v, u, rfl, _⟩)
   ·obtain ⟨m', S, F', hden⟩ := results (st := { st with path := p }) hR hF hex (g := fun j => .fn E.k es (j + 1)) (by omega) (by omega) (fun i q hq => hev (i + 1) q (by simpa using hq)) how h3 hout (fun f hf => hA.2 f (by simp [hf])) hc.1 (fun r hr => hA.1 r (Zay hr))
    exact ⟨m', ⟨S, F'⟩, _, Zgg hden (by omega), rfl⟩
   ·exfalso
    rw [hev 0 _ rfl] at h0
    simp only [Option.some.injEq, PV.v.injEq, Value.int.injEq, true_and] at h0
    all_goals omega
 ·rename_i j p hpath
  simp only [cond_eq_ite, Nat.blt_eq] at hr
  split at hr
  rotate_left
  ·cases hr
  rename_i hsmall
  simp only [Option.map_eq_some_iff, Prod.mk.injEq] at hr
  obtain ⟨v, hv, rfl, rfl, rfl⟩ := hr
  have hlA : lA.Fits W0 A := ⟨fun r hr => hA.1 r hr, fun f hf => hA.2 f (by simp [hf])⟩
  obtain ⟨us, hus, hul, rfl⟩ := Zcm E.ins args hls hvs
  obtain ⟨ps, hps, hpl, hrd⟩ := Zf7 hR hes hlA hus
  obtain ⟨htold, ps', qs, hps', hqs⟩ := hA.2 (.fx f E pans es) (by simp)
  rw [hps] at hps'
  cases hps'
  have h0 : W0.ev (.fn E.k es 0) = some (.v (.int .i64 ((j + 1 : Nat) : Int))) := hA.2 (.is (.fn E.k es 0) (.int .i64 ((j + 1 : Nat) : Int))) (by simp)
  have hev : ∀ i q, qs[i]? = some q -> W0.ev (.fn E.k es i) = some q := fun i q hq => by simp [Base.ev, SX.ev, hps, hqs, hq]
  refine (htold w (May W0 A m st w) us ps qs hqs hpl.symm (by omega) (fun k hk => hk.1) hrd).mono ?_
  rintro e w' (⟨qs', rfl, _⟩ | ⟨j', v', u', rfl, hv', rfl, hex⟩)
  ·exfalso
   rw [hev 0 _ rfl] at h0
   simp only [Option.some.injEq, PV.v.injEq, Value.int.injEq, true_and] at h0
   all_goals omega
  ·rw [hev 0 _ rfl] at h0
   simp only [Option.some.injEq, PV.v.injEq, Value.int.injEq, true_and] at h0
   obtain rfl : j' = j := by omega
   rw [hv] at hv'
   cases hv'
   obtain ⟨m', hok, _, _⟩ := Ziq (st := { st with path := p }) (lg := ⟨lA.A, 0, .fx f E pans es :: .is (.fn E.k es 0) (.int .i64 ((j' + 1 : Nat) : Int)) :: lA.V⟩) hR hF hex [] [] (fun _ _ => False) (by simp [Za9]) rfl (by simpa using hsmall) (fun r h1 h2 => absurd h1 (by simpa using h2)) (fun i e u he => by simp at he)
   exact ⟨m', ⟨hok.step, hok.fresh⟩, u', rfl⟩
 ·cases hr
theorem callX_gk {f : FuncId} {E : FnE} {pans : List Value} {args : List AV} {st st' : St} {r : ARet} {lg : Log} (hr : callX f E pans args st = some (r, st', lg)) : Gk st st' lg := by
 simp only [callX, Option.bind_eq_some_iff] at hr
 obtain ⟨ls, hls, ⟨es, lA⟩, hes, hr⟩ := hr
 split at hr
 ·rename_i p hpath
  simp only [Option.bind_eq_some_iff] at hr
  obtain ⟨⟨cs, fs, p', os⟩, hout, hr⟩ := hr
  cases hc : (Nat.blt (st.next + (Zat E.kinds 0).length + os.length) 16777215 && Nat.beq E.kinds.length (shLen E.outs)) with
  | false => simp [hc] at hr
  | true =>
   simp only [hc, cond_true, Option.some.injEq, Prod.mk.injEq] at hr
   obtain ⟨rfl, rfl, rfl⟩ := hr
   simp only [Bool.and_eq_true, Nat.blt_eq, Nat.beq_eq] at hc
   exact Zf4 (st := { st with path := p }) hc.1 (fun r hr => hr)
 ·rename_i j p hpath
  simp only [cond_eq_ite, Nat.blt_eq] at hr
  split at hr
  ·simp only [Option.map_eq_some_iff, Prod.mk.injEq] at hr
   obtain ⟨v, hv, rfl, rfl, rfl⟩ := hr
   exact fun r hr => rfl
  ·cases hr
 ·cases hr
theorem Zek (tab : FuncId -> Option (FnE × List Value)) : OrcOk Try.prog (orcX tab) := by
 refine ⟨?_, ?_⟩
 ·intro f args st r st' lg hr W0 A m w vs hA hR hF hvs
  simp only [orcX, Option.bind_eq_some_iff] at hr
  obtain ⟨E, hE, hr⟩ := hr
  exact callX_ok hr W0 A m w vs hA hR hF hvs
 ·intro f args st r st' lg hr
  simp only [orcX, Option.bind_eq_some_iff] at hr
  obtain ⟨E, hE, hr⟩ := hr
  exact callX_gk hr
theorem Zb3 {P : Program} {id : Nat} {b : Code} {k : List Code} {Q : Exit -> Act -> World -> Prop} (I : Nat -> Act -> World -> Prop)
  (h : ∀ n a w, I n a w -> wpL P (flat b) (fun e a' w' => (e = .normal /\ ∃ n', n' < n /\ I n' a' w') \/ (e = .exit id /\ wpL P k Q a' w') \/ (e = .ret /\ Q .ret a' w') \/ (∃ ch, e = .panic ch /\ Q (.panic ch) a' w')) a w) {n : Nat} {a : Act} {w : World} (hI : I n a w) : wpL P (.block id (.loop b) :: k) Q a w := by
 refine wp_block (loop_rule I (fun n a w hI => wp_mono (Zbu (h n a w hI)) ?_) n a w hI)
 rintro e a' w' (⟨rfl, hn⟩ | ⟨rfl, hk⟩ | ⟨rfl, hq⟩ | ⟨ch, rfl, hq⟩)
 ·exact .inl ⟨rfl, hn⟩
 ·refine .inr ⟨by simp, by simp, ?_⟩
  simp only [Exit.inBlock, if_true]
  exact hk
 ·exact .inr ⟨by simp, by simp, hq⟩
 ·exact .inr ⟨by simp, by simp, hq⟩
theorem canon_defers {sh : Shape} {path : List Nat} {x : AAct} {st : St} (hc1 : canon sh path = some (x, st)) : x.defers = [] := by
 unfold canon at hc1
 simp only [Option.bind_eq_some_iff] at hc1
 obtain ⟨⟨xs, r⟩, _, ⟨css, r'⟩, _, hc1⟩ := hc1
 simp only [cond_eq_ite] at hc1
 split at hc1
 ·cases hc1; rfl
 ·cases hc1
theorem told_byXU {f : FuncId} {E : FnE} {pans : List Value} {spec : List PV -> Option (List PV)} (F : Fns) (fn : Func) (c : Code) (hfn : Try.prog.funcs[f]? = some fn) (hc : fn.body = some c) (sh0 : Shape) (hsh : Zgu E fn f sh0 = true)
  (hk : ∀ ps qs, spec ps = some qs -> ∀ i : Nat, sh0.rows[i]? = some none -> ∃ x, ps[i]? = some (.v x) /\ x.oneCell' = true)
  (h : ∀ (C : Base) ps qs, C.F = F -> spec ps = some qs -> ∀ a w, Zah C sh0 ps a w -> wpL Try.prog (flat c) (fun e a' w' => (∃ qs', qs = .v (.int .i64 0) :: qs' /\ (e = .normal \/ e = .ret) /\ ∃ sh' ps' es, Zah C sh' ps' a' w' /\ resTo Try.prog fn sh' E = some es /\ evs (fun i => ps'[i]?) F es = some qs') \/ (∃ (j : Nat) (v u : Value) (sh' : Shape) (ps' : List PV), qs = [.v (.int .i64 ((j + 1 : Nat) : Int))] /\ pans[j]? = some v /\ e = .panic [{ v := pick v u, recovered := false }] /\ Zah C sh' ps' a' w')) a w) (hpl0 : E.kinds.all CK.plain = true := by rfl) : ToldX f E pans spec := by
 intro w FP us ps qs hsp hul hpl hFP hrd
 unfold Zgu at hsh
 split at hsh
 ·rename_i args st fs hst
  simp only [Bool.and_eq_true, Nat.blt_eq, Nat.beq_eq] at hsh
  obtain ⟨⟨⟨⟨hal, hrl⟩, hcan⟩, hvf⟩, hread⟩ := hsh
  split at hread
  ·rename_i es fs' hre
   simp only [Bool.and_eq_true, Nat.beq_eq] at hread
   obtain ⟨⟨hiv, hel⟩, hvf'⟩ := hread
   have hk' := hk ps qs hsp
   obtain ⟨m, hR, hF, hargs, hv0, _⟩ := Zdu (F := F) hst hul hpl hFP hrd (Zbc (B := ⟨w, fun i => ps[i]?, F, FP, fun _ => False⟩) hk' fs hvf)
   have hT := Zd8 (f := f) (fn := fn) hargs hal
   obtain ⟨qs', q1, q2⟩ := reabs (B := ⟨w, fun i => ps[i]?, F, FP, fun _ => False⟩) ⟨hR, hF, hT⟩ hre (Zbc (B := ⟨w, fun i => ps[i]?, F, FP, fun _ => False⟩) hk' fs' hvf') hcan
   have := Zd1 (s := fun i => ps[i]?) (F := F) (ps := ps) es 0 hiv (by omega) (fun j p hp => hp)
   rw [List.drop_zero] at this
   simp only at q1
   rw [this] at q1
   cases q1
   refine calls_of_wp_defers hfn hc (wp_mono (Zbu (h _ ps qs rfl hsp _ w q2)) ?_)
   rintro e a' w' hcase
   have nodef : ∀ {sh' : Shape} {x : AAct} {st1 : St} {m1 : Map} {ps' : List PV}, canon sh' [] = some (x, st1) -> At ((⟨w, fun i => ps[i]?, F, FP, fun _ => False⟩ : Base).with ps') m1 x st1 a' w' -> a'.defers = [] := fun hc1 hat => by
    have := hat.tm.defers
    have hx := canon_defers hc1
    rw [hx] at this
    simpa [denD] using this.symm
   rcases hcase with ⟨qs', rfl, he, sh', ps', es', ⟨x, st1, m1, hc1, hl1, hat⟩, hres, hev⟩ | ⟨j, v, uu, sh', ps', rfl, hv, rfl, x, st1, m1, hc1, hl1, hat⟩
   rotate_left
   ·show Leaves Try.prog fn a'.tmps _ a'.defers (.panicking _) w'
    rw [nodef hc1 hat]
    exact .inr ⟨j, v, uu, rfl, hv, rfl, hat.rel.same.1, hat.rel.same.2.1, hat.rel.same.2.2, hat.rel.size0, fun k hk => hat.rel.amb k hk (fun h => h)⟩
   simp only [resTo, hc1, Option.bind_some, Option.bind_eq_some_iff] at hres
   obtain ⟨⟨y, l1⟩, hy, ys, hys, ls, hls, ⟨es2, l2⟩, hes2, hres⟩ := hres
   cases hv : (l1.V.isEmpty && l2.V.isEmpty) with
   | false => simp [hv] at hres
   | true =>
    simp only [hv, cond_true, Option.some.injEq] at hres
    subst hres
    simp only [Bool.and_eq_true, List.isEmpty_iff] at hv
    obtain ⟨v, hvv, hrun⟩ := Zb4 hy ⟨fun _ _ => trivial, fun f hf => by rw [hv.1] at hf; cases hf⟩ hat.rel hat.tm
    obtain ⟨us', h1, h2, rfl⟩ := Ze2 hys hvv hls
    obtain ⟨qs2, h3, h4, h5⟩ := Zde hat.rel hes2 ⟨fun _ _ => trivial, fun f hf => by rw [hv.2] at hf; cases hf⟩ h1
    have h3' : evs (fun i => ps'[i]?) F es2 = some qs2 := h3
    rw [hev] at h3'
    cases h3'
    have hdef : a'.defers = [] := nodef hc1 hat
    have fin : Leaves Try.prog fn a'.tmps (fun e w'' => (∃ qs2, PV.v (.int .i64 0) :: qs' = .v (.int .i64 0) :: qs2 /\ RetD E FP w qs2 e w'') \/ (∃ (j : Nat) (v u : Value), PV.v (.int .i64 0) :: qs' = [.v (.int .i64 ((j + 1 : Nat) : Int))] /\ pans[j]? = some v /\ e = .panicked [{ v := pick v u, recovered := false }] /\ Ex w w'')) a'.defers .returning w' := by
     rw [hdef]
     have hll := Zak h1
     refine ⟨_, hrun, .inl ⟨qs', rfl, us', fun _ => none, h4.symm, by omega, Zdf hpl0, fun i q u hq hu w2 hw2 => h5 i q u _ hq hu (List.getElem?_eq_getElem (show i < ls.length by have := (List.getElem?_eq_some_iff.1 hu).1; omega)) w2 (fun k hk _ => hw2 k ?_ (fun _ _ h => by cases h)), rfl, ⟨hat.rel.same.1, hat.rel.same.2.1, hat.rel.same.2.2, hat.rel.size0, fun k hk => hat.rel.amb k hk (fun h => h)⟩⟩⟩
     rcases hk.2 with h | h
     ·exact .inl h
     ·exact .inr ⟨h, hk.1⟩
    rcases he with rfl | rfl
    ·exact fin
    ·exact fin
  ·cases hread
 ·cases hsh

theorem Zdn {f : FuncId} {E : FnE} {pans : List Value} {spec : List PV -> Option (List PV)} (F : Fns) (fn : Func) (c : Code) (hfn : Try.prog.funcs[f]? = some fn) (hc : fn.body = some c) (sh0 : Shape) (hsh : Zgu E fn f sh0 = true)
  (hk : ∀ ps qs, spec ps = some qs -> ∀ i : Nat, sh0.rows[i]? = some none -> ∃ x, ps[i]? = some (.v x) /\ x.oneCell' = true)
  (h : ∀ (C : Base) ps qs, C.F = F -> spec ps = some qs -> ∀ a w, Zah C sh0 ps a w -> wpL Try.prog (flat c) (fun e a' w' => (∃ qs', qs = .v (.int .i64 0) :: qs' /\ (e = .normal \/ e = .ret) /\ ∃ sh' ps' es, Zah C sh' ps' a' w' /\ resTo Try.prog fn sh' E = some es /\ evs (fun i => ps'[i]?) F es = some qs') \/ (∃ (j : Nat) (v : Value) (sh' : Shape) (ps' : List PV), qs = [.v (.int .i64 ((j + 1 : Nat) : Int))] /\ pans[j]? = some v /\ e = .panic [{ v, recovered := false }] /\ Zah C sh' ps' a' w')) a w) (hpl0 : E.kinds.all CK.plain = true := by rfl) : ToldX f E pans spec :=
 told_byXU F fn c hfn hc sh0 hsh hk (fun C ps qs hF hs a w hin => Zc6 _ (fun e a' w' he => by
  rcases he with he | ⟨j, v, sh', ps', g1, g2, g3, g4⟩
  ·exact .inl he
  ·exact .inr ⟨j, v, v, sh', ps', g1, g2, by rw [Zj7]; exact g3, g4⟩) (h C ps qs hF hs a w hin)) hpl0

end Go.Proofs.Ytonebjgdhachcaa.eng
end

section
/- The engine: calls of functions that turn what their first argument points to, and may panic. -/
namespace Go.Proofs.Ytonebjgdhachcaa.eng
open Go Go.RowKit
variable {W0 : Base}
set_option linter.unusedVariables false
set_option linter.unusedSimpArgs false

def turnA (st : St) (E : PtrE) (g : Nat -> SX) (outs : Sh) (kinds : List CK) (r v idx sz sub : Nat) (o : ARoot) (ok : Bool) : Option (List AV × St × Nat × List Fact) := match o.vers with
 | (v', n) :: _ => (outD g kinds 0 st.next (st.next + (Zat kinds 0).length) st.path).bind fun (cs, fs, p', os) =>
  cond (Nat.beq v v' && Nat.beq (idx * sz + sub) 0 && ok && !o.ro && !o.opn && Nat.beq n o.cells.length && Nat.beq n E.cells && Nat.beq o.elem E.elem && Nat.blt (st.next + (Zat kinds 0).length + os.length) 16777215 && Nat.beq kinds.length (shLen outs + E.cells) && (cs.drop (shLen outs)).all AV.one)
   ((St.put (resSt st g kinds p' os) r { o with cells := cs.drop (shLen outs), vers := [(v, n)], dat := none, sym := none }).map fun st' => (cs.take (shLen outs), st', (1 <<< r) ||| Zcb st kinds os, fs)) none
 | [] => none
def callQ (f : FuncId) (E : PtrE) (pans : List Value) (args : List AV) (st : St) : Option (ARet × St × Log) := match args, st.path with
 | .ptr r v idx sz sub :: rest, c :: p => (getC st r).bind fun o => (Zbe E.ins rest).bind fun ls => (Ze9 st (ls ++ o.cells)).bind fun (es, ok, lA) => match c with
  | 0 => (turnA { st with path := p } E (fun j => .fn E.k es (j + 1)) E.outs E.kinds r v idx sz sub o ok).map fun (cs, st', mk, fs) =>
   (.ret (Zio E.outs cs), st', ⟨(1 <<< r) ||| (lA.A ||| mk), mk, .fq f E pans es :: .is (.fn E.k es 0) (.int .i64 0) :: (lA.V ++ fs)⟩)
  | j + 1 => (pans[j]?).bind fun x => (turnA { st with path := p } E (fun j => .fn E.k es (j + 1)) [] (E.kinds.drop (shLen E.outs)) r v idx sz sub o ok).map fun (_, st', mk, fs) =>
   (.pan x, st', ⟨(1 <<< r) ||| (lA.A ||| mk), mk, .fq f E pans es :: .is (.fn E.k es 0) (.int .i64 ((j + 1 : Nat) : Int)) :: (lA.V ++ fs)⟩)
 | _, _ => none
def orcQ (tab : FuncId -> Option (PtrE × List Value)) : Orc := fun f args st => (tab f).bind fun E => callQ f E.1 E.2 args st
theorem turn_ok {st s1 : St} {E : PtrE} {g : Nat -> SX} {outs : Sh} {kinds : List CK} {r0 v idx sz sub : Nat} {o : ARoot} {ok : Bool} {cs : List AV} {mk : Nat} {fs : List Fact} (ht : turnA st E g outs kinds r0 v idx sz sub o ok = some (cs, s1, mk, fs))
  {A : Nat -> Prop} {m : Map} {w : World} (hR : Rel W0 A m st.heap.get w) (hF : Fresh A m st.next) (har : A r0) (ho : st.heap.get r0 = some o) (hmp : o.mp = false) (hmk : ∀ r, bit mk r -> A r) (hfs : ∀ f ∈ fs, f.holds W0)
  {b : Nat × Nat} (hb : m r0 v = some b) {qs : List PV} (hev : ∀ i q, qs[i]? = some q -> W0.ev (g i) = some q) {en : List Value -> Ending} {e : Ending} {w' : World} (hT : TurnP E outs kinds en (May W0 A m st w) b.1 w qs e w') :
  ∃ m' us', Step W0 A (bit mk) m st.heap.get w m' s1.heap.get w' /\ Fresh A m' s1.next /\ denL m' cs = some us' /\ us'.length = shLen outs /\ e = en us' := by
 unfold turnA at ht
 split at ht
 rotate_left
 ·cases ht
 rename_i v' n rest' hvers
 simp only [Option.bind_eq_some_iff] at ht
 obtain ⟨⟨cs0, fs0, p', os⟩, hout, ht⟩ := ht
 cases hc : (Nat.beq v v' && Nat.beq (idx * sz + sub) 0 && ok && !o.ro && !o.opn && Nat.beq n o.cells.length && Nat.beq n E.cells && Nat.beq o.elem E.elem && Nat.blt (st.next + (Zat kinds 0).length + os.length) 16777215 && Nat.beq kinds.length (shLen outs + E.cells) && (cs0.drop (shLen outs)).all AV.one) with
 | false => simp [hc] at ht
 | true =>
  simp only [hc, cond_true, Option.map_eq_some_iff, Prod.mk.injEq] at ht
  obtain ⟨s2, hput, rfl, rfl, rfl, rfl⟩ := ht
  simp only [Bool.and_eq_true, Nat.blt_eq, Nat.beq_eq, Bool.not_eq_true', List.all_eq_true] at hc
  obtain ⟨⟨⟨⟨⟨⟨⟨⟨⟨⟨rfl, hz⟩, rfl⟩, hro⟩, hop⟩, hnl⟩, hnE⟩, hel⟩, hsm⟩, hkl⟩, hone⟩ := hc
  obtain ⟨b', hb', hB⟩ := hR.blkC r0 o har ho hmp v n (by rw [hvers]; simp)
  rw [hb] at hb'; cases hb'
  obtain ⟨c, fz, hcc, hfz, hn1, hn2, hcell, hsize⟩ := hB
  simp only [hop, cond_false] at hsize
  have hbm : ∀ k, May W0 A m st w k -> k < w.heap.size /\ k ≠ b.1 := fun k hk => ⟨hk.1, fun he => by
   obtain ⟨r3, o3, e3, v3, fp3, a3, h3, d3, m3, k3⟩ := hk.2.2
   exact hR.disj r3 o3 e3 v3 fp3 r0 o v n b a3 har h3 d3 m3 ho (by rw [hvers]; simp) hb (he ▸ k3)⟩
  obtain ⟨us', c', fz', ow, h1, h2, h3, h4, hfz', how, h5, rfl, hos, htape, hout2, hsz, hkeep⟩ := hT
  rw [<- hel] at h4
  have hlt0 : r0 < st.next := by
   rcases Nat.lt_or_ge r0 st.next with h | h
   ·exact h
   ·rw [(hF r0 har h).1 v] at hb; cases hb
  have hblt : b.1 < w.heap.size := hR.lt har ho (show (v, n) ∈ o.vers by rw [hvers]; simp) hb
  let w1 : World := { w' with heap := w'.heap.setIfInBounds b.1 (.cells c o.elem fz) }
  have hw1 : ∀ k, k ≠ b.1 -> w1.heap[k]? = w'.heap[k]? := fun k hk => by
   show (w'.heap.setIfInBounds b.1 _)[k]? = _
   rw [Array.getElem?_setIfInBounds_ne (Ne.symm hk)]
  have hw1s : w1.heap.size = w'.heap.size := by show (w'.heap.setIfInBounds b.1 _).size = _; simp
  have hex : Ex w w1 := ⟨hos, htape, hout2, by rw [hw1s]; exact hsz, fun k hk => by
   by_cases hkb : k = b.1
   ·subst hkb
    show (w'.heap.setIfInBounds b.1 _)[b.1]? = _
    rw [hcc, Array.getElem?_setIfInBounds_self_of_lt (by omega)]
   ·rw [hw1 k hkb]; exact hkeep k hk hkb⟩
  have hrb : ∀ k, (May W0 A m st w k \/ (w.heap.size <= k /\ k < w'.heap.size)) -> k ≠ b.1 := fun k hk => by
   rcases hk with hk | hk
   ·exact (hbm k hk).2
   ·omega
  have hall : (us' ++ c'.toList).length = kinds.length := by simp [h1, h2]; omega
  have how1 : Owns w w1 kinds qs (us' ++ c'.toList) ow := ⟨fun i bb hi => by
   obtain ⟨el, sz, may, q, u, g1, g2, g3, ⟨g4, g5, n2, cap, cs2, c2, fz2, g6, g7, g8, g9⟩, g10⟩ := how.at' i bb hi
   exact ⟨el, sz, may, q, u, g1, g2, g3, ⟨g4, by rw [hw1s]; exact g5, n2, cap, cs2, c2, fz2, g6, g7, (hw1 bb (by omega)).trans g8, g9⟩, g10⟩, how.no, how.inj⟩
  obtain ⟨m', S, F', hden⟩ := results hR hF hex (g := g) (us := us' ++ c'.toList) hall (by omega) hev how1
   (fun i q u hq hu w2 hw2 => h5 i q u hq hu w2 (fun k hk hj => (hw2 k (by rw [hw1s]; exact hk) hj).trans (hw1 k (hrb k hk)))) hout hfs hsm (fun r hr => hmk r (Zay hr))
  have t1 := Zbs (shLen outs) hden
  have t2 := Zbt (shLen outs) hden
  rw [<- h1, List.take_left' rfl, h1] at t1
  rw [<- h1, List.drop_left' rfl, h1] at t2
  obtain ⟨hpt, hnext⟩ := put_ok hput
  have hg1 : (resSt st g kinds p' os).heap.get r0 = some o := by
   rw [Zf4 (lg := ⟨0, Zcb st kinds os, []⟩) hsm (fun _ h => h) r0 (fun h => by have := (Zbd _ _ _).1 h; omega)]
   exact ho
  have hb1 : m' r0 v = some b := S.ext.1 _ _ _ hb
  have hcsl : (cs0.drop (shLen outs)).length = n := by
   have := Zak t2
   rw [<- this, Array.length_toList, h2]
   omega
  have hrel1 := S.rel
  have hstep2 : Step W0 A (fun k => k = r0) m' (resSt st g kinds p' os).heap.get w1 m' s2.heap.get w' := by
   rw [hpt]
   refine Step.put hrel1 har (Map.Le.refl m') (fun _ _ _ => rfl) rfl rfl (fun o2 _ _ _ ho2 _ _ => by rw [hg1] at ho2; cases ho2; exact hro) rfl (fun _ _ _ _ he _ _ => by simp at he) (fun o2 _ _ _ ho2 _ _ => by rw [hg1] at ho2; cases ho2; rfl) (fun _ v1 n1 b1 hv1 hb1' => by
    simp only [List.mem_singleton, Prod.mk.injEq] at hv1
    obtain ⟨rfl, rfl⟩ := hv1
    rw [hb1] at hb1'
    cases hb1'
    exact Nat.lt_of_lt_of_le hblt hex.size) rfl rfl rfl (by rw [hw1s]; exact Nat.le_refl _) ?_ ?_ ?_ ?_
   ·intro k hk hno
    exact (hw1 k (fun e => hno o v n b hg1 (by rw [hvers]; simp) hb1 e.symm)).symm
   ·intro v1 n1 hv1
    simp only [List.mem_singleton, Prod.mk.injEq] at hv1
    obtain ⟨rfl, rfl⟩ := hv1
    refine ⟨b, hb1, BlkC.b ⟨c', fz', h4, hfz', by simp only; omega, by omega, fun i x hi hx => ?_, by simp only [hop, cond_false]; omega⟩ hmp⟩
    obtain ⟨u, hu1, hu2⟩ := Zbb t2 hx
    exact ⟨u, hu1, by simpa using hu2⟩
   ·intro v1 n1 rest1 he v2 hlt
    simp only [List.cons.injEq, Prod.mk.injEq] at he
    obtain ⟨⟨rfl, rfl⟩, _⟩ := he
    exact hrel1.top r0 o v n rest' har hg1 hvers v2 hlt
   ·intro v1 n1 b1 hv1 hb1' _
    simp only [List.mem_singleton, Prod.mk.injEq] at hv1
    obtain ⟨rfl, rfl⟩ := hv1
    exact ⟨o, v1, n1, b1, hg1, by rw [hvers]; simp, hb1', rfl⟩
  refine ⟨m', us', (S.trans hstep2).more (fun k hk => ?_), by rw [hnext]; exact F', t1, h1, rfl⟩
  rcases hk with hk | hk
  ·exact Zay hk
  ·exact Zaw ((Zao _ _).2 hk)
theorem given {st : St} {E : PtrE} {r0 v idx sz sub n : Nat} {rest' : List (Nat × Nat)} {o : ARoot} {rest ls : List AV} {es : List SX} {lA : Log} {A : Nat -> Prop} {m : Map} {w : World} {vs : List Value} (hR : Rel W0 A m st.heap.get w) (har : A r0) (ho : st.heap.get r0 = some o) (hvers : o.vers = (v, n) :: rest')
  (hz : idx * sz + sub = 0) (hmp : o.mp = false) (hop : o.opn = false) (hnl : n = o.cells.length) (hnE : n = E.cells) (hel : o.elem = E.elem) (hls : Zbe E.ins rest = some ls) (hes : Ze9 st (ls ++ o.cells) = some (es, true, lA)) (hlA : lA.Fits W0 A) (hvs : denL m (.ptr r0 v idx sz sub :: rest) = some vs) :
  ∃ (b : Nat × Nat) (c : Array Value) (fz : Nat × Nat) (us : List Value) (ps : List PV), m r0 v = some b /\ vs = .pointer (some ⟨b.1, 0, none⟩) :: Zau E.ins us /\ us.length = shLen E.ins /\ ps.length = shLen E.ins + E.cells /\ c.size = E.cells /\ w.heap[b.1]? = some (.cells c E.elem fz) /\ (∀ i, i < c.size -> ¬ (fz.1 <= i /\ i < fz.2)) ∧
   (∀ k, May W0 A m st w k -> k < w.heap.size /\ k ≠ b.1) /\ evs W0.s W0.F es = some ps /\ (∀ (i : Nat) (p : PV) (u : Value), ps[i]? = some p -> (us ++ c.toList)[i]? = some u -> ∀ w2 : World, (∀ k, May W0 A m st w k -> w2.heap[k]? = w.heap[k]?) -> Reads w2 p u) := by
 simp only [denL, Option.bind_eq_some_iff, Option.map_eq_some_iff] at hvs
 obtain ⟨pv, hpv, rv, hrv, rfl⟩ := hvs
 simp only [AV.den, Option.map_eq_some_iff] at hpv
 obtain ⟨b, hb, rfl⟩ := hpv
 rw [hz]
 obtain ⟨b', hb', hB⟩ := hR.blkC r0 o har ho hmp v n (by rw [hvers]; simp)
 rw [hb] at hb'; cases hb'
 have hB' := hB
 obtain ⟨c, fz, hcc, hfz, hn1, hn2, hcell, hsize⟩ := hB'
 simp only [hop, cond_false] at hsize
 obtain ⟨l, hd, hll, _, hlc⟩ := hB.cells (P := (default : Program)) (off := 0) (k := n) (by omega)
 have hcl : Za8 o 0 n = o.cells := by simp [Za8, hnl]
 rw [hcl] at hd
 have hl : l = c.toList := by
  apply List.ext_getElem?
  intro i
  by_cases hi : i < l.length
  ·have := hlc i l[i] (List.getElem?_eq_getElem hi)
   simp only [World.cell?, hcc, Nat.zero_add] at this
   rw [List.getElem?_eq_getElem hi]
   simpa using this.symm
  ·rw [List.getElem?_eq_none (by omega), List.getElem?_eq_none (by simp; omega)]
 subst hl
 obtain ⟨us, hus, hul, rfl⟩ := Zcm E.ins rest hls hrv
 obtain ⟨ps, hps, hpl, hrd⟩ := Zeu hR hes hlA (Zas hus hd)
 have hcl2 : c.toList.length = n := hll
 refine ⟨b, c, fz, us, ps, hb, rfl, hul, by rw [hpl, List.length_append]; omega, by omega, by rw [<- hel]; exact hcc, hfz, fun k hk => ⟨hk.1, fun he => ?_⟩, hps, fun i p u hp hu w2 hw2 => (hrd i p u hp hu).2 rfl w2 hw2⟩
 obtain ⟨r3, o3, e3, v3, fp3, a3, h3, d3, m3, k3⟩ := hk.2.2
 exact hR.disj r3 o3 e3 v3 fp3 r0 o v n b a3 har h3 d3 m3 ho (by rw [hvers]; simp) hb (he ▸ k3)
theorem Zjf {st s1 : St} {E : PtrE} {g : Nat -> SX} {outs : Sh} {kinds : List CK} {r0 v idx sz sub : Nat} {o : ARoot} {ok : Bool} {cs : List AV} {mk : Nat} {fs : List Fact} (ht : turnA st E g outs kinds r0 v idx sz sub o ok = some (cs, s1, mk, fs)) :
  ∃ n rest', o.vers = (v, n) :: rest' /\ idx * sz + sub = 0 /\ ok = true /\ o.opn = false /\ n = o.cells.length /\ n = E.cells /\ o.elem = E.elem /\ Gk st s1 ⟨0, mk, []⟩ /\ bit mk r0 := by
 unfold turnA at ht
 split at ht
 rotate_left
 ·cases ht
 rename_i v' n rest' hvers
 simp only [Option.bind_eq_some_iff] at ht
 obtain ⟨⟨cs0, fs0, p', os⟩, hout, ht⟩ := ht
 cases hc : (Nat.beq v v' && Nat.beq (idx * sz + sub) 0 && ok && !o.ro && !o.opn && Nat.beq n o.cells.length && Nat.beq n E.cells && Nat.beq o.elem E.elem && Nat.blt (st.next + (Zat kinds 0).length + os.length) 16777215 && Nat.beq kinds.length (shLen outs + E.cells) && (cs0.drop (shLen outs)).all AV.one) with
 | false => simp [hc] at ht
 | true =>
  simp only [hc, cond_true, Option.map_eq_some_iff, Prod.mk.injEq] at ht
  obtain ⟨s2, hput, rfl, rfl, rfl, rfl⟩ := ht
  simp only [Bool.and_eq_true, Nat.blt_eq, Nat.beq_eq, Bool.not_eq_true', List.all_eq_true] at hc
  obtain ⟨⟨⟨⟨⟨⟨⟨⟨⟨⟨rfl, hz⟩, hok⟩, hro⟩, hop⟩, hnl⟩, hnE⟩, hel⟩, hsm⟩, hkl⟩, hone⟩ := hc
  refine ⟨n, rest', hvers, hz, hok, hop, hnl, hnE, hel, fun r hr => ?_, Zaw ((Zao _ _).2 rfl)⟩
  have g1 : Gk st (resSt st g kinds p' os) ⟨0, Zcb st kinds os, []⟩ := Zf4 hsm (fun _ h => h)
  have g2 := Zeb hput
  rw [g2 r (fun h => hr (Zaw h)), g1 r (fun h => hr (Zay h))]
theorem callQ_ok {f : FuncId} {E : PtrE} {pans : List Value} {args : List AV} {st st' : St} {r : ARet} {lg : Log} (hr : callQ f E pans args st = some (r, st', lg)) (W0 : Base) (A : Nat -> Prop) (m : Map) (w : World) (vs : List Value) (hA : lg.Fits W0 A) (hR : Rel W0 A m st.heap.get w) (hF : Fresh A m st.next) (hvs : denL m args = some vs) :
  Calls Try.prog f vs.toArray w (CPost W0 A m st w r st' lg) := by
 unfold callQ at hr
 split at hr
 rotate_left
 ·cases hr
 rename_i r0 v idx sz sub rest c p hpath
 simp only [Option.bind_eq_some_iff] at hr
 obtain ⟨o, ho, ls, hls, ⟨es, ok, lA⟩, hes, hr⟩ := hr
 obtain ⟨ho, hmp⟩ := Ze7 ho
 split at hr
 ·simp only [Option.map_eq_some_iff, Prod.mk.injEq] at hr
  obtain ⟨⟨cs, s1, mk, fs⟩, ht, rfl, rfl, rfl⟩ := hr
  obtain ⟨n, rest', hvers, hz, rfl, hop, hnl, hnE, hel, _, hbit⟩ := Zjf ht
  have har : A r0 := hA.1 r0 (Zaw ((Zao _ _).2 rfl))
  have hlA : lA.Fits W0 A := ⟨fun r hr => hA.1 r (Zay (Zaw hr)), fun f hf => hA.2 f (by simp [hf])⟩
  obtain ⟨b, cc, fz, us, ps, hb, rfl, g1, g2, g3, g4, g5, g6, hps, g8⟩ := given hR har ho hvers hz hmp hop hnl hnE hel hls hes hlA hvs
  obtain ⟨htold, ps', qs, hps', hqs⟩ := hA.2 (.fq f E pans es) (by simp)
  rw [hps] at hps'
  cases hps'
  have h0 : W0.ev (.fn E.k es 0) = some (.v (.int .i64 0)) := hA.2 (.is (.fn E.k es 0) (.int .i64 0)) (by simp)
  have hev : ∀ i q, qs[i]? = some q -> W0.ev (.fn E.k es i) = some q := fun i q hq => by simp [Base.ev, SX.ev, hps, hqs, hq]
  refine (htold w (May W0 A m st w) b.1 cc fz us ps qs hqs g1 g2 g3 g4 g5 g6 g8).mono ?_
  rintro e w' (⟨qs', rfl, hT⟩ | ⟨j, x, ux, qs', rfl, _⟩)
  ·obtain ⟨m', us', S, F', d1, d2, rfl⟩ := turn_ok (st := { st with path := p }) ht hR hF har ho hmp (fun r hr => hA.1 r (Zay (Zay hr))) (fun f hf => hA.2 f (by simp [hf])) hb (fun i q hq => hev (i + 1) q (by simpa using hq)) hT
   exact ⟨m', ⟨S, F'⟩, _, Zgg d1 d2, rfl⟩
  ·exfalso
   rw [hev 0 _ rfl] at h0
   simp only [Option.some.injEq, PV.v.injEq, Value.int.injEq, true_and] at h0
   all_goals omega
 ·rename_i j
  simp only [Option.bind_eq_some_iff, Option.map_eq_some_iff, Prod.mk.injEq] at hr
  obtain ⟨x, hx, ⟨cs, s1, mk, fs⟩, ht, rfl, rfl, rfl⟩ := hr
  obtain ⟨n, rest', hvers, hz, rfl, hop, hnl, hnE, hel, _, hbit⟩ := Zjf ht
  have har : A r0 := hA.1 r0 (Zaw ((Zao _ _).2 rfl))
  have hlA : lA.Fits W0 A := ⟨fun r hr => hA.1 r (Zay (Zaw hr)), fun f hf => hA.2 f (by simp [hf])⟩
  obtain ⟨b, cc, fz, us, ps, hb, rfl, g1, g2, g3, g4, g5, g6, hps, g8⟩ := given hR har ho hvers hz hmp hop hnl hnE hel hls hes hlA hvs
  obtain ⟨htold, ps', qs, hps', hqs⟩ := hA.2 (.fq f E pans es) (by simp)
  rw [hps] at hps'
  cases hps'
  have h0 : W0.ev (.fn E.k es 0) = some (.v (.int .i64 ((j + 1 : Nat) : Int))) := hA.2 (.is (.fn E.k es 0) (.int .i64 ((j + 1 : Nat) : Int))) (by simp)
  have hev : ∀ i q, qs[i]? = some q -> W0.ev (.fn E.k es i) = some q := fun i q hq => by simp [Base.ev, SX.ev, hps, hqs, hq]
  refine (htold w (May W0 A m st w) b.1 cc fz us ps qs hqs g1 g2 g3 g4 g5 g6 g8).mono ?_
  rintro e w' (⟨qs', rfl, _⟩ | ⟨j', x', ux, qs', rfl, hx', hT⟩)
  ·exfalso
   rw [hev 0 _ rfl] at h0
   simp only [Option.some.injEq, PV.v.injEq, Value.int.injEq, true_and] at h0
   all_goals omega
  ·rw [hev 0 _ rfl] at h0
   simp only [Option.some.injEq, PV.v.injEq, Value.int.injEq, true_and] at h0
   obtain rfl : j' = j := by omega
   rw [hx] at hx'
   cases hx'
   obtain ⟨m', us', S, F', d1, d2, rfl⟩ := turn_ok (st := { st with path := p }) ht hR hF har ho hmp (fun r hr => hA.1 r (Zay (Zay hr))) (fun f hf => hA.2 f (by simp [hf])) hb (fun i q hq => hev (i + 1) q (by simpa using hq)) hT
   exact ⟨m', ⟨S, F'⟩, ux, rfl⟩
theorem callQ_gk {f : FuncId} {E : PtrE} {pans : List Value} {args : List AV} {st st' : St} {r : ARet} {lg : Log} (hr : callQ f E pans args st = some (r, st', lg)) : Gk st st' lg := by
 unfold callQ at hr
 split at hr
 rotate_left
 ·cases hr
 rename_i r0 v idx sz sub rest c p hpath
 simp only [Option.bind_eq_some_iff] at hr
 obtain ⟨o, ho, ls, hls, ⟨es, ok, lA⟩, hes, hr⟩ := hr
 obtain ⟨ho, hmp⟩ := Ze7 ho
 split at hr
 ·simp only [Option.map_eq_some_iff, Prod.mk.injEq] at hr
  obtain ⟨⟨cs, s1, mk, fs⟩, ht, rfl, rfl, rfl⟩ := hr
  obtain ⟨n, rest', _, _, _, _, _, _, _, hg, _⟩ := Zjf ht
  exact fun r hr => hg r hr
 ·simp only [Option.bind_eq_some_iff, Option.map_eq_some_iff, Prod.mk.injEq] at hr
  obtain ⟨x, hx, ⟨cs, s1, mk, fs⟩, ht, rfl, rfl, rfl⟩ := hr
  obtain ⟨n, rest', _, _, _, _, _, _, _, hg, _⟩ := Zjf ht
  exact fun r hr => hg r hr
theorem Zbw (tab : FuncId -> Option (PtrE × List Value)) : OrcOk Try.prog (orcQ tab) := by
 refine ⟨?_, ?_⟩
 ·intro f args st r st' lg hr W0 A m w vs hA hR hF hvs
  simp only [orcQ, Option.bind_eq_some_iff] at hr
  obtain ⟨E, hE, hr⟩ := hr
  exact callQ_ok hr W0 A m w vs hA hR hF hvs
 ·intro f args st r st' lg hr
  simp only [orcQ, Option.bind_eq_some_iff] at hr
  obtain ⟨E, hE, hr⟩ := hr
  exact callQ_gk hr
end Go.Proofs.Ytonebjgdhachcaa.eng
end

section
/- The engine: a contract out of Zbn, of a function that turns what its first argument points to and may panic. -/
namespace Go.Proofs.Ytonebjgdhachcaa.eng
open Go Go.RowKit
variable {W0 : Base}
set_option linter.unusedVariables false
set_option linter.unusedSimpArgs false

def Zou (sh : Shape) (E : PtrE) : Option (List SX) := (canon sh []).bind fun (x, st) => (getC st 0).bind fun o => match o.vers with
 | (v, n) :: _ => (Zea st o.cells).bind fun (es, l2) => cond (l2.V.isEmpty && o.lent && !o.opn && Nat.beq n o.cells.length && Nat.beq n E.cells && Nat.beq o.elem E.elem) (some es) none
 | [] => none
theorem turned {E : PtrE} {outs : Sh} {kinds : List CK} {en : List Value -> Ending} {FP : Nat -> Prop} {b : Nat} {w w' : World} {B : Base} (hBh : B.w = w) (hBf : B.fp = FP) (hBm : B.mine = fun k => k = b) {m1 : Map} {st2 : St} (hR : Rel B (fun _ => True) m1 st2.heap.get w') {o : ARoot} (ho : st2.heap.get 0 = some o) (hmp : o.mp = false) {v n : Nat} {rest : List (Nat × Nat)} (hvers : o.vers = (v, n) :: rest) (hlent : o.lent = true) (hop : o.opn = false) (hnl : n = o.cells.length) (hnE : n = E.cells) (hel2 : o.elem = E.elem)
  {ls : List AV} {es2 : List SX} {l2 : Log} (hes2 : Zea st2 (ls ++ o.cells) = some (es2, l2)) (hv2 : l2.V = []) {us' : List Value} (h1 : denL m1 ls = some us') (h2 : us'.length = shLen outs) {qs : List PV} (hev : evs B.s B.F es2 = some qs) (hpl : kinds.all CK.plain = true) :
  TurnP E outs kinds en FP b w qs (en us') w' := by
 subst hBh hBf
 obtain ⟨b', hb', hB⟩ := hR.blkC 0 o trivial ho hmp v n (by rw [hvers]; simp)
 have hmine : b'.1 = b := by
  have := (hR.abv 0 o v n b' trivial ho (by rw [hvers]; simp) hb').2 hlent
  rw [hBm] at this
  exact this
 obtain ⟨l, hd, hll, _, hlc⟩ := hB.cells (P := (default : Program)) (off := 0) (k := n) (by omega)
 have hca : Za8 o 0 n = o.cells := by simp [Za8, hnl]
 rw [hca] at hd
 obtain ⟨c', fz', hcc', hfz', hn1, hn2, _, hsz'⟩ := hB
 simp only [hop, cond_false] at hsz'
 have hlc' : l = c'.toList := by
  apply List.ext_getElem?
  intro i
  by_cases hi : i < l.length
  ·have := hlc i l[i] (List.getElem?_eq_getElem hi)
   simp only [World.cell?, hcc', Nat.zero_add] at this
   rw [List.getElem?_eq_getElem hi]
   simpa using this.symm
  ·rw [List.getElem?_eq_none (by omega), List.getElem?_eq_none (by simp; omega)]
 subst hlc'
 obtain ⟨qs2, h3, h4, h5⟩ := Zde hR hes2 ⟨fun _ _ => trivial, fun f hf => by rw [hv2] at hf; cases hf⟩ (Zas h1 hd)
 rw [hev] at h3
 cases h3
 rw [hmine] at hcc'
 have hll2 := Zak (Zas h1 hd)
 refine ⟨us', c', fz', fun _ => none, h2, by omega, by rw [h4, List.length_append, h2]; omega, by rw [<- hel2]; exact hcc', hfz', Zdf hpl, fun i q u hq hu w2 hw2 => h5 i q u _ hq hu (List.getElem?_eq_getElem (show i < (ls ++ o.cells).length by have := (List.getElem?_eq_some_iff.1 hu).1; omega)) w2 (fun k hk _ => hw2 k ?_ (fun _ _ h => by cases h)), rfl, hR.same.1, hR.same.2.1, hR.same.2.2, hR.size0, fun k hk hkb => hR.amb k hk (by rw [hBm]; exact hkb)⟩
 rcases hk.2 with h | h
 ·exact .inl h
 ·exact .inr ⟨h, hk.1⟩
theorem Zic {f : FuncId} {E : PtrE} {pans : List Value} {spec : List PV -> Option (List PV)} (F : Fns) (fn : Func) (c : Code) (hfn : Try.prog.funcs[f]? = some fn) (hc : fn.body = some c) (sh0 : Shape) (hsh : Ze0 E fn f sh0 = true)
  (hk : ∀ ps qs, spec ps = some qs -> ∀ i : Nat, sh0.rows[i]? = some none -> ∃ x, ps[i]? = some (.v x) /\ x.oneCell' = true)
  (h : ∀ (C : Base) ps qs, C.F = F -> spec ps = some qs -> ∀ a w, Zah C sh0 ps a w -> wpL Try.prog (flat c) (fun e a' w' => (∃ qs', qs = .v (.int .i64 0) :: qs' /\ (e = .normal \/ e = .ret) /\ ∃ sh' ps' es, Zah C sh' ps' a' w' /\ Zgq Try.prog fn sh' E = some es /\ evs (fun i => ps'[i]?) F es = some qs') \/ (∃ (j : Nat) (v u : Value) (qs' : List PV) (sh' : Shape) (ps' : List PV) (es : List SX), qs = .v (.int .i64 ((j + 1 : Nat) : Int)) :: qs' /\ pans[j]? = some v /\ e = .panic [{ v := pick v u, recovered := false }] /\ Zah C sh' ps' a' w' /\ Zou sh' E = some es /\ evs (fun i => ps'[i]?) F es = some qs')) a w) (hpl0 : E.kinds.all CK.plain = true := by rfl) : ToldQ f E pans spec := by
 intro w FP b cc fz us ps qs hsp hul hpl hcs hcc hfz hFP hrd
 unfold Ze0 at hsh
 split at hsh
 ·rename_i args st fs hst
  simp only [Bool.and_eq_true, Nat.blt_eq, Nat.beq_eq] at hsh
  obtain ⟨⟨⟨⟨hal, hrl⟩, hcan⟩, hvf⟩, hread⟩ := hsh
  split at hread
  ·rename_i es fs' hre
   simp only [Bool.and_eq_true, Nat.beq_eq] at hread
   obtain ⟨⟨hiv, hel⟩, hvf'⟩ := hread
   have hk' := hk ps qs hsp
   let B : Base := ⟨w, fun i => ps[i]?, F, FP, fun k => k = b⟩
   simp only [Zrb, Option.bind_eq_some_iff] at hst
   obtain ⟨⟨args0, st0, fs0⟩, hst0, hst⟩ := hst
   cases hlen : Nat.beq args0.length (E.ins.length + E.cells) with
   | false => simp [hlen] at hst
   | true =>
    simp only [hlen, cond_true, Option.map_eq_some_iff, Prod.mk.injEq] at hst
    obtain ⟨st1, hput, rfl, rfl, rfl⟩ := hst
    have hlen := Nat.eq_of_beq_eq_true hlen
    have hcl : cc.toList.length = E.cells := by simpa using hcs
    have hall : shLen E.all.ins = shLen E.ins + E.cells := by simp [PtrE.all, Zfm, Zgv]
    obtain ⟨m, hR, hF, hargs, hv0, hfps⟩ := Zdu (F := F) (X := fun k => k = b) (us := us ++ cc.toList) (ps := ps) hst0 (by simp [hul, hpl, hcl]) (by rw [hall]; exact hpl) (fun k hk => (hFP k hk).1)
     (fun i p u hp hu => ⟨hrd i p u hp hu w (fun _ _ => rfl), fun _ w2 hw2 => hrd i p u hp hu w2 hw2⟩) (Zbc (B := B) hk' fs0 hvf)
    have hfp : ∀ r v fp, m.d r = some (v, fp) -> ∀ k, fp k -> FP k := fun r v fp hm k hk => by
     rcases hfps r v fp hm k hk with h | ⟨x, hx, hl⟩
     ·exact h
     ·exfalso
      have hx' : x < shLen E.ins + E.cells := by simp [hul, hcl] at hx; omega
      simp [PtrE.all, List.getD, List.getElem?_replicate, hx'] at hl
    have hasm : Zau E.all.ins (us ++ cc.toList) = Zau E.ins us ++ cc.toList := by
     simp only [PtrE.all]
     rw [Zdi _ _ _ _ hul, <- hcl, Zda]
    rw [hasm] at hargs
    have hail := Zdh E.ins us hul
    have t1 := Zbs E.ins.length hargs
    have t2 := Zbt E.ins.length hargs
    rw [<- hail, List.take_left' rfl, hail] at t1
    rw [<- hail, List.drop_left' rfl, hail] at t2
    obtain ⟨hpt, hnext⟩ := put_ok hput
    have hblt : b < w.heap.size := by
     rcases Nat.lt_or_ge b w.heap.size with h | h
     ·exact h
     ·rw [Array.getElem?_eq_none h] at hcc; cases hcc
    have hcells : (args0.drop E.ins.length).length = E.cells := by simp; omega
    have hle : m.Le (m.new st0.next (b, 0)) := ⟨fun r v x hx => by
     show (if r = st0.next /\ v = 0 then some (b, 0) else m r v) = some x
     split
     ·rename_i e
      rw [e.1, (hF st0.next trivial (Nat.le_refl _)).1 v] at hx
      cases hx
     ·exact hx, fun _ _ h => h, fun _ _ h => h⟩
    have hup : ∀ r o, st1.heap.get r = some o -> (r = st0.next /\ o = Za4 E (args0.drop E.ins.length)) \/ (r ≠ st0.next /\ st0.heap.get r = some o) := fun r o ho => by
     rw [hpt] at ho
     by_cases hr : r = st0.next
     ·simp [Heap.upd, hr] at ho; exact .inl ⟨hr, ho.symm⟩
     ·simp [Heap.upd, hr] at ho; exact .inr ⟨hr, ho⟩
    have hvr : ∀ r o v n, st1.heap.get r = some o -> (v, n) ∈ o.vers -> r = st0.next /\ o = Za4 E (args0.drop E.ins.length) /\ v = 0 /\ n = E.cells := fun r o v n ho hv => by
     rcases hup r o ho with ⟨h1, h2⟩ | ⟨h1, h2⟩
     ·subst h2
      simp only [Za4, List.mem_singleton, Prod.mk.injEq] at hv
      exact ⟨h1, rfl, hv.1, hv.2⟩
     ·rw [hv0 r o h2] at hv; cases hv
    have hmb : (m.new st0.next (b, 0)) st0.next 0 = some (b, 0) := by simp [Map.new]
    have hR1 : Rel B (fun _ => True) (m.new st0.next (b, 0)) st1.heap.get w := by
     refine ⟨?_, ?_, ?_, Nat.le_refl _, fun _ _ _ => rfl, ?_, ?_, ?_, hR.sv, ⟨rfl, rfl, rfl⟩, ?_, ?_⟩
     ·intro r o _ ho v n hv
      obtain ⟨rfl, rfl, rfl, rfl⟩ := hvr r o v n ho hv
      refine ⟨(b, 0), hmb, cc, fz, hcc, hfz, by simp only [Za4]; omega, by omega, fun i x hi hx => ?_, by simp only [Za4, cond_false]; exact hcs⟩
      obtain ⟨u, hu1, hu2⟩ := Zbb t2 hx
      exact ⟨u, AV.den_mono hle x hu1, by simpa using hu2⟩
     ·intro r r' o o' v n v' n' b1 b1' _ _ ho ho' hv hv' _ _ _
      obtain ⟨rfl, _⟩ := hvr r o v n ho hv
      obtain ⟨rfl, _⟩ := hvr r' o' v' n' ho' hv'
      rfl
     ·intro r o v n rest _ ho hv v' hlt
      obtain ⟨rfl, rfl, rfl, rfl⟩ := hvr r o v n ho (by rw [hv]; simp)
      have : ¬ v' = 0 := by omega
      simp [Map.new, this, (hF st0.next trivial (Nat.le_refl _)).1]
     ·intro r o v n b1 _ ho hv hb
      obtain ⟨rfl, rfl, rfl, rfl⟩ := hvr r o v n ho hv
      rw [hmb] at hb
      cases hb
      exact ⟨fun hl => (by simp [Za4] at hl), fun _ => rfl⟩
     ·intro r o e _ ho hd
      rcases hup r o ho with ⟨h1, h2⟩ | ⟨h1, h2⟩
      ·subst h2; simp [Za4] at hd
      ·exact hR.dat r o e trivial h2 hd
     ·intro r o e v fp r' o' u n b1 _ _ ho hd hm ho' hu hb hfpb
      obtain ⟨rfl, rfl, rfl, rfl⟩ := hvr r' o' u n ho' hu
      rw [hmb] at hb
      cases hb
      exact (hFP _ (hfp r v fp hm _ hfpb)).2 rfl
     ·intro r o e v fp _ ho hd hm hro k hk
      exact .inl (hfp r v fp hm k hk)
     ·intro r o e v n b1 _ ho hs hv hb
      obtain ⟨rfl, rfl, rfl, rfl⟩ := hvr r o v n ho hv
      simp [Za4] at hs
    have hF1 : Fresh (fun _ => True) (m.new st0.next (b, 0)) st1.next := by
     intro r _ hr
     rw [hnext] at hr
     have hr' : st0.next + 1 <= r := hr
     have : ¬ r = st0.next := by omega
     have h := hF r trivial (by omega)
     refine ⟨fun v => ?_, h.2⟩
     simp only [Map.new, this, false_and, if_false]
     exact h.1 v
    have hdenargs : denL (m.new st0.next (b, 0)) (.ptr st0.next 0 0 0 0 :: args0.take E.ins.length) = some (.pointer (some ⟨b, 0, none⟩) :: Zau E.ins us) := by
     simp [denL, AV.den, hmb, Zb7 hle _ t1]
    have hT := Zd8 (f := f) (fn := fn) hdenargs hal
    have hnx : st1.next - 1 = st0.next := by rw [hnext]; simp
    obtain ⟨qs', q1, q2⟩ := reabs (B := B) ⟨hR1, hF1, hT⟩ hre (Zbc (B := B) hk' fs' hvf') hcan
    have := Zd1 (s := fun i => ps[i]?) (F := F) (ps := ps) es 0 hiv (by omega) (fun j p hp => hp)
    rw [List.drop_zero] at this
    simp only [B] at q1
    rw [this] at q1
    cases q1
    refine calls_of_wp_defers hfn hc (wp_mono (Zbu (h B ps qs rfl hsp _ w q2)) ?_)
    rintro e a' w' hcase
    have nodef : ∀ {sh' : Shape} {x : AAct} {st1 : St} {m1 : Map} {ps' : List PV}, canon sh' [] = some (x, st1) -> At (B.with ps') m1 x st1 a' w' -> a'.defers = [] := fun hc1 hat => by
     have := hat.tm.defers
     have hx := canon_defers hc1
     rw [hx] at this
     simpa [denD] using this.symm
    rcases hcase with ⟨qs', rfl, he, sh', ps', es', ⟨x, st2, m1, hc1, hl1, hat⟩, hres, hev⟩ | ⟨j, v, uu, qs', sh', ps', es', rfl, hv, rfl, ⟨x, st2, m1, hc1, hl1, hat⟩, hres, hev⟩
    ·simp only [Zgq, hc1, Option.bind_some, Option.bind_eq_some_iff] at hres
     obtain ⟨⟨y, l1⟩, hy, ys, hys, ls, hls, o, ho, hres⟩ := hres
     obtain ⟨ho, hmp⟩ := Ze7 ho
     split at hres
     ·rename_i v n rest hvers
      simp only [Option.bind_eq_some_iff] at hres
      obtain ⟨⟨es2, l2⟩, hes2, hres⟩ := hres
      cases hv : (l1.V.isEmpty && l2.V.isEmpty && o.lent && !o.opn && Nat.beq n o.cells.length && Nat.beq n E.cells && Nat.beq o.elem E.elem) with
      | false => simp [hv] at hres
      | true =>
       simp only [hv, cond_true, Option.some.injEq] at hres
       subst hres
       simp only [Bool.and_eq_true, List.isEmpty_iff, Nat.beq_eq, Bool.not_eq_true'] at hv
       obtain ⟨⟨⟨⟨⟨⟨hv1, hv2⟩, hlent⟩, hop⟩, hnl⟩, hnE⟩, hel2⟩ := hv
       obtain ⟨vv, hvv, hrun⟩ := Zb4 hy ⟨fun _ _ => trivial, fun f hf => by rw [hv1] at hf; cases hf⟩ hat.rel hat.tm
       obtain ⟨us', h1, h2, rfl⟩ := Ze2 hys hvv hls
       have hT := turned (E := E) (outs := E.outs) (kinds := E.kinds) (en := fun us' => .returned (Zby E.outs us')) (B := B.with ps') (b := b) (FP := FP) (w := w) rfl rfl rfl hat.rel ho hmp hvers hlent hop hnl hnE hel2 hes2 hv2 h1 h2 hev hpl0
       have fin : Leaves Try.prog fn a'.tmps (fun e w' => (∃ qs'', PV.v (.int .i64 0) :: qs' = .v (.int .i64 0) :: qs'' /\ TurnP E E.outs E.kinds (fun us' => .returned (Zby E.outs us')) FP b w qs'' e w') \/ (∃ (j : Nat) (v u : Value) (qs'' : List PV), PV.v (.int .i64 0) :: qs' = .v (.int .i64 ((j + 1 : Nat) : Int)) :: qs'' /\ pans[j]? = some v /\ TurnP E [] (E.kinds.drop (shLen E.outs)) (fun _ => .panicked [{ v := pick v u, recovered := false }]) FP b w qs'' e w')) a'.defers .returning w' := by
        rw [nodef hc1 hat]
        exact ⟨_, hrun, .inl ⟨qs', rfl, hT⟩⟩
       rcases he with rfl | rfl
       ·exact fin
       ·exact fin
     ·cases hres
    ·simp only [Zou, hc1, Option.bind_some, Option.bind_eq_some_iff] at hres
     obtain ⟨o, ho, hres⟩ := hres
     obtain ⟨ho, hmp⟩ := Ze7 ho
     split at hres
     ·rename_i v1 n rest hvers
      simp only [Option.bind_eq_some_iff] at hres
      obtain ⟨⟨es2, l2⟩, hes2, hres⟩ := hres
      cases hv' : (l2.V.isEmpty && o.lent && !o.opn && Nat.beq n o.cells.length && Nat.beq n E.cells && Nat.beq o.elem E.elem) with
      | false => simp [hv'] at hres
      | true =>
       simp only [hv', cond_true, Option.some.injEq] at hres
       subst hres
       simp only [Bool.and_eq_true, List.isEmpty_iff, Nat.beq_eq, Bool.not_eq_true'] at hv'
       obtain ⟨⟨⟨⟨⟨hv2, hlent⟩, hop⟩, hnl⟩, hnE⟩, hel2⟩ := hv'
       have hpl1 : (E.kinds.drop (shLen E.outs)).all CK.plain = true := List.all_eq_true.2 fun k hk => List.all_eq_true.1 hpl0 k (List.mem_of_mem_drop hk)
       have hT := turned (E := E) (outs := []) (kinds := E.kinds.drop (shLen E.outs)) (en := fun _ => .panicked [{ v := pick v uu, recovered := false }]) (B := B.with ps') (b := b) (FP := FP) (w := w) (ls := []) (us' := []) rfl rfl rfl hat.rel ho hmp hvers hlent hop hnl hnE hel2 hes2 hv2 rfl rfl hev hpl1
       show Leaves Try.prog fn a'.tmps _ a'.defers (.panicking _) w'
       rw [nodef hc1 hat]
       exact .inr ⟨j, v, uu, qs', rfl, hv, hT⟩
     ·cases hres
  ·cases hread
 ·cases hsh
theorem told_ptrQ {f : FuncId} {E : PtrE} {pans : List Value} {spec : List PV -> Option (List PV)} (F : Fns) (fn : Func) (c : Code) (hfn : Try.prog.funcs[f]? = some fn) (hc : fn.body = some c) (sh0 : Shape) (hsh : Ze0 E fn f sh0 = true)
  (hk : ∀ ps qs, spec ps = some qs -> ∀ i : Nat, sh0.rows[i]? = some none -> ∃ x, ps[i]? = some (.v x) /\ x.oneCell' = true)
  (h : ∀ (C : Base) ps qs, C.F = F -> spec ps = some qs -> ∀ a w, Zah C sh0 ps a w -> wpL Try.prog (flat c) (fun e a' w' => (∃ qs', qs = .v (.int .i64 0) :: qs' /\ (e = .normal \/ e = .ret) /\ ∃ sh' ps' es, Zah C sh' ps' a' w' /\ Zgq Try.prog fn sh' E = some es /\ evs (fun i => ps'[i]?) F es = some qs') \/ (∃ (j : Nat) (v : Value) (qs' : List PV) (sh' : Shape) (ps' : List PV) (es : List SX), qs = .v (.int .i64 ((j + 1 : Nat) : Int)) :: qs' /\ pans[j]? = some v /\ e = .panic [{ v, recovered := false }] /\ Zah C sh' ps' a' w' /\ Zou sh' E = some es /\ evs (fun i => ps'[i]?) F es = some qs')) a w) (hpl0 : E.kinds.all CK.plain = true := by rfl) : ToldQ f E pans spec :=
 Zic F fn c hfn hc sh0 hsh hk (fun C ps qs hF hs a w hin => Zc6 _ (fun e a' w' he => by
  rcases he with he | ⟨j, v, qs', sh', ps', es, g1, g2, g3, g4⟩
  ·exact .inl he
  ·exact .inr ⟨j, v, v, qs', sh', ps', es, g1, g2, by rw [Zj7]; exact g3, g4⟩) (h C ps qs hF hs a w hin)) hpl0
end Go.Proofs.Ytonebjgdhachcaa.eng
end

section
/- The engine: Zbn of code that may end in a panic whose value is not known. -/
namespace Go.Proofs.Ytonebjgdhachcaa.eng
open Go Go.RowKit
variable {W0 : Base}
set_option linter.unusedVariables false
set_option linter.unusedSimpArgs false

def segU (P : Program) (O : Orc) (n : Nat) (cs : List Code) (sh : Shape) (path : List Nat) (sh' : Shape) (rho : List (Nat × Nat)) (H : FuncId -> Oper -> Option Hint := fun _ _ => none) : Option (AX × List Fact × List SX) :=
 (canon sh path).bind fun (x, st) => (Zl3 (Zq0 P O n H) cs x st).bind fun (e, x', st', lg) => (Zly sh' rho x' st').bind fun (es, fs) => cond (canon sh' []).isSome (some (e, lg.V ++ fs, es)) none
theorem Zod (hN : GoodP Try.prog) (hM : Try.prog.follows .mixedOrders = true) {O : Orc} (hO : OrcOk Try.prog O) {n : Nat} {l l2 : List Code} {sh sh' : Shape} {path : List Nat} {rho : List (Nat × Nat)} {H : FuncId -> Oper -> Option Hint} {e : AX} {fs : List Fact} {es : List SX}
  (hrun : segU Try.prog O n l sh path sh' rho H = some (e, fs, es)) {C : Base} {ps : List PV} {a : Act} {w : World} (h : Zah C sh ps a w) (hf : ∀ x ∈ fs, x.holds (C.with ps)) {Q : Exit -> Act -> World -> Prop}
  (hQ : ∀ qs a' w', evs (fun i => ps[i]?) C.F es = some qs -> Zah C sh' qs a' w' -> (e = .normal -> wpL Try.prog l2 Q a' w') /\ (e ≠ .normal -> ∀ u, Q (e.to u) a' w')) : wpL Try.prog (l ++ l2) Q a w := by
 simp only [segU, Option.bind_eq_some_iff] at hrun
 obtain ⟨⟨x, st⟩, hcan, ⟨e', x', st', lg⟩, hcode, ⟨es', fs'⟩, hrd, hrun⟩ := hrun
 cases hc : (canon sh' []).isSome with
 | false => simp [hc] at hrun
 | true =>
  simp only [hc, cond_true, Option.some.injEq, Prod.mk.injEq] at hrun
  obtain ⟨rfl, rfl, rfl⟩ := hrun
  obtain ⟨x0, st0, m, h0, hl, hat⟩ := h
  obtain ⟨st1, h1, rfl⟩ := canon_path hcan
  rw [h0] at h1
  cases h1
  refine Zke (W0 := C.with ps) (Zjy hN hM hO n) l l2 x _ _ _ _ _ hcode (fun _ => True) m a w ⟨fun _ _ => trivial, fun f hf' => hf f (by simp [hf'])⟩ hat.rel hat.fresh hat.tm Q ?_
  intro m' a' w' hok hT'
  obtain ⟨qs, q1, q2⟩ := reabs (B := C.with ps) ⟨hok.rel, hok.fresh, hT'⟩ hrd (fun f hf' => hf f (by simp [hf'])) hc
  exact hQ qs a' w' q1 q2
end Go.Proofs.Ytonebjgdhachcaa.eng
end
