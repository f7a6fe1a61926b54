/- Floats by their bits: an order of all, sums, what is whole. Plain mathematics, no program. -/
import Derived.Laws.FloatBits
import Derived.Laws.FloatArith
namespace Go.Proofs.Ytigafjnnadopbaa.flo
open Ieee

/-- The word is no number. -/
def nanB (b : Nat) : Bool := decide (9218868437227405312 < b % 9223372036854775808)
def negB (b : Nat) : Bool := decide (9223372036854775808 ≤ b)
/-- A number that rises as floats do; all that are no number at the end. -/
def okey (b : Nat) : Int :=
  if 9218868437227405312 < b % 9223372036854775808 then 18446744073709551616
  else if 9223372036854775808 ≤ b then - ((b % 9223372036854775808 : Nat) : Int) - 1
  else ((b % 9223372036854775808 : Nat) : Int)
/-- The same with the two noughts as one; of what is a number. -/
def zkey (b : Nat) : Int :=
  if 9223372036854775808 ≤ b then - ((b % 9223372036854775808 : Nat) : Int)
  else ((b % 9223372036854775808 : Nat) : Int)

def ordI (a b : Nat) : Int := if okey a < okey b then -1 else if okey b < okey a then 1 else 0

/-- What a rung is worth, in units of the least. -/
def worth (r : Nat) : Nat := if r < 4503599627370496 then r else (4503599627370496 + r % 4503599627370496) * 2 ^ (r / 4503599627370496 - 1)

theorem worth_step (r : Nat) : worth r < worth (r + 1) := by
  unfold worth
  by_cases h1 : r + 1 < 4503599627370496
  · rw [if_pos (by omega), if_pos h1]; omega
  · rw [if_neg h1]
    by_cases h2 : r < 4503599627370496
    · rw [if_pos h2]
      have : r + 1 = 4503599627370496 := by omega
      rw [this]; simp; omega
    · rw [if_neg h2]
      by_cases h3 : (r + 1) % 4503599627370496 = 0
      · have e1 : r % 4503599627370496 = 4503599627370495 := by omega
        have e2 : (r + 1) / 4503599627370496 = r / 4503599627370496 + 1 := by omega
        have e3 : 1 ≤ r / 4503599627370496 := by omega
        rw [h3, e1, e2]
        have e4 : r / 4503599627370496 + 1 - 1 = (r / 4503599627370496 - 1) + 1 := by omega
        rw [e4, Nat.pow_succ]
        have : 0 < 2 ^ (r / 4503599627370496 - 1) := Nat.two_pow_pos _
        generalize 2 ^ (r / 4503599627370496 - 1) = p at *
        omega
      · have e1 : (r + 1) % 4503599627370496 = r % 4503599627370496 + 1 := by omega
        have e2 : (r + 1) / 4503599627370496 = r / 4503599627370496 := by omega
        rw [e1, e2]
        exact Nat.mul_lt_mul_of_pos_right (by omega) (Nat.two_pow_pos _)

theorem worth_lt {r s : Nat} (h : r < s) : worth r < worth s := by
  induction s with
  | zero => omega
  | succ s ih =>
    rcases Nat.lt_or_ge r s with h' | h'
    · exact Nat.lt_trans (ih h') (worth_step s)
    · have : r = s := by omega
      subst this; exact worth_step r

theorem worth_iff {r s : Nat} : worth r < worth s ↔ r < s := by
  refine ⟨fun h => ?_, worth_lt⟩
  rcases Nat.lt_or_ge r s with h' | h'
  · exact h'
  · rcases Nat.lt_or_ge s r with h'' | h''
    · have := worth_lt h''; omega
    · have : r = s := by omega
      subst this; omega

theorem worth_inj {r s : Nat} (h : worth r = worth s) : r = s := by
  rcases Nat.lt_trichotomy r s with h' | h' | h'
  · have := worth_lt h'; omega
  · exact h'
  · have := worth_lt h'; omega

def sgn (s : Bool) (n : Nat) : Int := if s then -(n : Int) else (n : Int)

theorem rung_of (b : Nat) (h : b < 18446744073709551616) : (b / 9223372036854775808 % 2 == 1) = negB b := by
  unfold negB
  by_cases h' : 9223372036854775808 ≤ b
  · have : b / 9223372036854775808 = 1 := by omega
    simp [this, h']
  · have : b / 9223372036854775808 = 0 := by omega
    simp [this, h']

/-- What a word that is a finite number reads as. -/
theorem read_num (b : Nat) (h : b < 18446744073709551616) (hf : b % 9223372036854775808 < 9218868437227405312) :
    ∃ m k : Nat, double.read b = .number (negB b) m (double.leastPlace + k) ∧ m * 2 ^ k = worth (b % 9223372036854775808) := by
  unfold Format.read
  have e1 : double.signWeight = 9223372036854775808 := rfl
  have e2 : double.binade = 4503599627370496 := rfl
  have e3 : double.infRung = 9218868437227405312 := rfl
  simp only [e1, e2, e3, rung_of b h]
  unfold worth
  by_cases h1 : b % 9223372036854775808 < 4503599627370496
  · rw [if_pos h1, if_pos h1]
    exact ⟨b % 9223372036854775808, 0, by simp, by simp⟩
  · rw [if_neg h1, if_pos hf, if_neg h1]
    exact ⟨_, _, rfl, rfl⟩

theorem read_inf (b : Nat) (h : b < 18446744073709551616) (hf : b % 9223372036854775808 = 9218868437227405312) : double.read b = .infinity (negB b) := by
  unfold Format.read
  have e1 : double.signWeight = 9223372036854775808 := rfl
  have e2 : double.binade = 4503599627370496 := rfl
  have e3 : double.infRung = 9218868437227405312 := rfl
  simp only [e1, e2, e3, rung_of b h, hf]
  simp

theorem read_nan (b : Nat) (h : nanB b = true) : ∃ s f, double.read b = .nan s f := by
  unfold nanB at h
  have h := of_decide_eq_true h
  unfold Format.read
  have e1 : double.signWeight = 9223372036854775808 := rfl
  have e2 : double.binade = 4503599627370496 := rfl
  have e3 : double.infRung = 9218868437227405312 := rfl
  simp only [e1, e2, e3]
  rw [if_neg (by omega), if_neg (by omega), if_neg (by omega)]
  exact ⟨_, _, rfl⟩

theorem signed_sgn (s : Bool) (m k : Nat) : signed s m k = sgn s (m * 2 ^ k) := by
  unfold signed sgn
  rw [Nat.shiftLeft_eq]

theorem sgn_mul (s : Bool) (n p : Nat) : sgn s (n * p) = sgn s n * (p : Int) := by
  unfold sgn
  cases s <;> simp [Int.neg_mul]

theorem compare_mul (x y : Int) (p : Nat) (hp : 0 < p) : compare (x * (p : Int)) (y * (p : Int)) = compare x y := by
  have hp' : (0 : Int) < (p : Int) := by omega
  rcases Int.lt_trichotomy x y with h | h | h
  · have h2 : x * (p : Int) < y * (p : Int) := Int.mul_lt_mul_of_pos_right h hp'
    rw [Int.compare_eq_lt.2 h, Int.compare_eq_lt.2 h2]
  · subst h; simp
  · have h2 : y * (p : Int) < x * (p : Int) := Int.mul_lt_mul_of_pos_right h hp'
    rw [Int.compare_eq_gt.2 h, Int.compare_eq_gt.2 h2]

theorem order_num (L : Int) (s t : Bool) (m n i j : Nat) :
    Datum.order (.number s m (L + i)) (.number t n (L + j)) = some (compare (sgn s (m * 2 ^ i)) (sgn t (n * 2 ^ j))) := by
  unfold Datum.order
  have e : min (L + (i : Int)) (L + (j : Int)) = L + (min i j : Nat) := by omega
  simp only [e]
  have e1 : (L + (i : Int) - (L + (min i j : Nat))).toNat = i - min i j := by omega
  have e2 : (L + (j : Int) - (L + (min i j : Nat))).toNat = j - min i j := by omega
  rw [e1, e2, signed_sgn, signed_sgn]
  have hp : 0 < 2 ^ (min i j) := Nat.two_pow_pos _
  rw [← compare_mul _ _ (2 ^ (min i j)) hp, ← sgn_mul, ← sgn_mul, Nat.mul_assoc, Nat.mul_assoc, ← Nat.pow_add, ← Nat.pow_add]
  have a1 : i - min i j + min i j = i := by omega
  have a2 : j - min i j + min i j = j := by omega
  rw [a1, a2]

theorem sgn_worth (s t : Bool) (r q : Nat) : compare (sgn s (worth r)) (sgn t (worth q)) = compare (sgn s r) (sgn t q) := by
  have hz : worth 0 = 0 := rfl
  have w1 := @worth_iff r q
  have w2 := @worth_iff q r
  have w3 := @worth_iff 0 r
  have w4 := @worth_iff 0 q
  rw [hz] at w3 w4
  generalize worth r = x at *
  generalize worth q = y at *
  unfold sgn
  cases s <;> cases t <;> simp only [if_true, if_false, Bool.false_eq_true] <;>
    (rcases Nat.lt_trichotomy r q with h | h | h <;>
     rcases Nat.lt_trichotomy x y with h' | h' | h' <;>
     first
       | omega
       | (rw [Int.compare_eq_lt.2 (by omega), Int.compare_eq_lt.2 (by omega)])
       | (rw [Int.compare_eq_gt.2 (by omega), Int.compare_eq_gt.2 (by omega)])
       | (rw [Int.compare_eq_eq.2 (by omega), Int.compare_eq_eq.2 (by omega)])
       | (by_cases hr : 0 < r <;> by_cases hq : 0 < q <;>
           first
             | omega
             | (rw [Int.compare_eq_lt.2 (by omega), Int.compare_eq_lt.2 (by omega)])
             | (rw [Int.compare_eq_gt.2 (by omega), Int.compare_eq_gt.2 (by omega)])
             | (rw [Int.compare_eq_eq.2 (by omega), Int.compare_eq_eq.2 (by omega)])))

theorem zkey_sgn (b : Nat) : zkey b = sgn (negB b) (b % 9223372036854775808) := by
  unfold zkey sgn negB
  by_cases h : 9223372036854775808 ≤ b <;> simp [h]

theorem order_nan (a b : Nat) (h : nanB a = true ∨ nanB b = true) : double.order a b = none := by
  unfold Format.order
  rcases h with h | h
  · obtain ⟨s, f, e⟩ := read_nan a h
    rw [e]; rfl
  · obtain ⟨s, f, e⟩ := read_nan b h
    rw [e]; cases double.read a <;> rfl

theorem order_ok (a b : Nat) (ha : a < 18446744073709551616) (hb : b < 18446744073709551616) (na : nanB a = false) (nb : nanB b = false) :
    double.order a b = some (compare (zkey a) (zkey b)) := by
  unfold nanB at na nb
  have na := of_decide_eq_false na
  have nb := of_decide_eq_false nb
  unfold Format.order
  rw [zkey_sgn, zkey_sgn]
  by_cases fa : a % 9223372036854775808 < 9218868437227405312
  · obtain ⟨m, i, e1, e2⟩ := read_num a ha fa
    by_cases fb : b % 9223372036854775808 < 9218868437227405312
    · obtain ⟨n, j, e3, e4⟩ := read_num b hb fb
      rw [e1, e3, order_num, e2, e4, sgn_worth]
    · have ib : b % 9223372036854775808 = 9218868437227405312 := by omega
      rw [e1, read_inf b hb ib, ib]
      generalize a % 9223372036854775808 = r at *
      unfold Datum.order sgn
      cases negB a <;> cases negB b <;> simp only [if_true, if_false, Bool.false_eq_true] <;>
        first
          | rw [Int.compare_eq_lt.2 (by omega)]
          | rw [Int.compare_eq_gt.2 (by omega)]
  · have ia : a % 9223372036854775808 = 9218868437227405312 := by omega
    rw [read_inf a ha ia, ia]
    by_cases fb : b % 9223372036854775808 < 9218868437227405312
    · obtain ⟨n, j, e3, e4⟩ := read_num b hb fb
      rw [e3]
      generalize b % 9223372036854775808 = r at *
      unfold Datum.order sgn
      cases negB a <;> cases negB b <;> simp only [if_true, if_false, Bool.false_eq_true] <;>
        first
          | rw [Int.compare_eq_lt.2 (by omega)]
          | rw [Int.compare_eq_gt.2 (by omega)]
    · have ib : b % 9223372036854775808 = 9218868437227405312 := by omega
      rw [read_inf b hb ib, ib]
      unfold Datum.order sgn
      cases negB a <;> cases negB b <;> rfl

/-! The three questions, as Bools. -/
theorem lss_iff (a b : Nat) (ha : a < 18446744073709551616) (hb : b < 18446744073709551616) :
    (double.order a b == some .lt) = (!nanB a && !nanB b && decide (zkey a < zkey b)) := by
  cases na : nanB a <;> cases nb : nanB b
  case false.false =>
    rw [order_ok a b ha hb na nb]
    by_cases h : zkey a < zkey b
    · rw [Int.compare_eq_lt.2 h]; simp [h]
    · have : compare (zkey a) (zkey b) ≠ .lt := fun e => h (Int.compare_eq_lt.1 e)
      simp [h, this]
  all_goals rw [order_nan a b (by simp [na, nb])]; rfl

theorem eql_iff (a b : Nat) (ha : a < 18446744073709551616) (hb : b < 18446744073709551616) :
    (double.order a b == some .eq) = (!nanB a && !nanB b && decide (zkey a = zkey b)) := by
  cases na : nanB a <;> cases nb : nanB b
  case false.false =>
    rw [order_ok a b ha hb na nb]
    by_cases h : zkey a = zkey b
    · rw [h]; simp
    · have : compare (zkey a) (zkey b) ≠ .eq := fun e => h (Int.compare_eq_eq.1 e)
      simp [h, this]
  all_goals rw [order_nan a b (by simp [na, nb])]; rfl

theorem gtr_iff (a b : Nat) (ha : a < 18446744073709551616) (hb : b < 18446744073709551616) :
    (double.order a b == some .gt) = (!nanB a && !nanB b && decide (zkey b < zkey a)) := by
  cases na : nanB a <;> cases nb : nanB b
  case false.false =>
    rw [order_ok a b ha hb na nb]
    by_cases h : zkey b < zkey a
    · rw [Int.compare_eq_gt.2 h]; simp [h]
    · have : compare (zkey a) (zkey b) ≠ .gt := fun e => h (Int.compare_eq_gt.1 e)
      simp [h, this]
  all_goals rw [order_nan a b (by simp [na, nb])]; rfl

theorem eql_self (a : Nat) (ha : a < 18446744073709551616) : (double.order a a == some .eq) = !nanB a := by
  rw [eql_iff a a ha ha]; cases nanB a <;> simp

theorem zero_iff (a : Nat) (ha : a < 18446744073709551616) : (double.order a 0 == some .eq) = decide (a % 9223372036854775808 = 0) := by
  rw [eql_iff a 0 ha (by omega)]
  have n0 : nanB 0 = false := rfl
  have z0 : zkey 0 = 0 := rfl
  rw [n0, z0]
  by_cases h : a % 9223372036854775808 = 0
  · simp [nanB, zkey, h]
  · unfold nanB zkey
    by_cases h1 : 9223372036854775808 ≤ a
    · simp [h1, h]; omega
    · simp [h1, h]; omega

/-- a stands ahead of b. -/
theorem ahead_iff (a b : Nat) :
    (if (decide (a % 9223372036854775808 = 0) && decide (b % 9223372036854775808 = 0)) = true then negB a && !negB b
     else (!nanB a && !nanB b && decide (zkey a < zkey b)) || (!nanB a && nanB b)) = decide (okey a < okey b) := by
  unfold negB nanB zkey okey
  by_cases a1 : a % 9223372036854775808 = 0 <;> by_cases b1 : b % 9223372036854775808 = 0 <;>
  by_cases a2 : 9218868437227405312 < a % 9223372036854775808 <;> by_cases b2 : 9218868437227405312 < b % 9223372036854775808 <;>
  by_cases a3 : 9223372036854775808 ≤ a <;> by_cases b3 : 9223372036854775808 ≤ b <;>
  simp [a1, b1, a2, b2, a3, b3] <;> omega

theorem ordI_bd (a b : Nat) : -1 ≤ ordI a b ∧ ordI a b ≤ 1 := by unfold ordI; split <;> (try split) <;> omega
theorem ordI_neg (a b : Nat) : ordI a b = - ordI b a := by unfold ordI; split <;> (try split) <;> (try split) <;> omega
theorem ordI_self (a : Nat) : ordI a a = 0 := by unfold ordI; simp
theorem ordI_le {a b : Nat} : ordI a b ≤ 0 ↔ okey a ≤ okey b := by unfold ordI; split <;> (try split) <;> omega
theorem ordI_zero {a b : Nat} : ordI a b = 0 ↔ okey a = okey b := by unfold ordI; split <;> (try split) <;> omega
theorem ordI_lt {a b : Nat} : ordI a b = -1 ↔ okey a < okey b := by unfold ordI; split <;> (try split) <;> omega
theorem ordI_trans {a b c : Nat} (h1 : ordI a b ≤ 0) (h2 : ordI b c ≤ 0) : ordI a c ≤ 0 := by
  rw [ordI_le] at *; omega
theorem okey_of_lss (a b : Nat) (ha : a < 18446744073709551616) (hb : b < 18446744073709551616) (h : (double.order a b == some .lt) = true) : ordI a b = -1 := by
  rw [lss_iff a b ha hb] at h
  simp only [Bool.and_eq_true, Bool.not_eq_true', decide_eq_true_eq] at h
  obtain ⟨⟨h1, h2⟩, h3⟩ := h
  rw [ordI_lt]
  unfold nanB at h1 h2
  have h1 := of_decide_eq_false h1
  have h2 := of_decide_eq_false h2
  unfold zkey at h3
  unfold okey
  rw [if_neg h1, if_neg h2]
  by_cases a3 : 9223372036854775808 ≤ a <;> by_cases b3 : 9223372036854775808 ≤ b <;> simp only [a3, b3, if_true, if_false] at h3 ⊢ <;> omega
theorem okey_nan (a : Nat) : nanB a = true ↔ okey a = 18446744073709551616 := by
  unfold nanB okey
  by_cases h : 9218868437227405312 < a % 9223372036854775808
  · simp [h]
  · simp only [h, if_false, decide_false, Bool.false_eq_true, false_iff]; split <;> omega
/-- Of numbers, alike by the order is alike by the bits. -/
theorem okey_inj (a b : Nat) (ha : a < 18446744073709551616) (hb : b < 18446744073709551616) (na : nanB a = false) (h : okey a = okey b) : a = b := by
  have nb : nanB b = false := by
    cases hb' : nanB b
    · rfl
    · rw [(okey_nan b).1 hb'] at h; rw [(okey_nan a).2 h] at na; cases na
  unfold nanB at na nb
  have na := of_decide_eq_false na
  have nb := of_decide_eq_false nb
  unfold okey at h
  rw [if_neg na, if_neg nb] at h
  by_cases a3 : 9223372036854775808 ≤ a <;> by_cases b3 : 9223372036854775808 ≤ b <;> simp only [a3, b3, if_true, if_false] at h <;> omega

/-! Sums. -/
theorem sum_num {a b d : Datum} (h : Datum.sum a b = some d) : d.isNaN = false := by
  cases a <;> cases b <;> simp only [Datum.sum] at h <;> first | (split at h <;> cases h <;> rfl) | (cases h <;> rfl)
theorem quot_num {k : Nat} {a b d : Datum} (h : Datum.quotient k a b = some d) : d.isNaN = false := by
  cases a <;> cases b <;> simp only [Datum.quotient] at h <;> first | (split at h <;> (try split at h) <;> cases h <;> rfl) | (cases h <;> rfl)
theorem word_rung (s : Bool) (r : Nat) (h : r ≤ 9218868437227405312) : double.word s r % 9223372036854775808 ≤ 9218868437227405312 := by
  unfold Format.word
  have e1 : double.signWeight = 9223372036854775808 := rfl
  rw [e1]
  split <;> omega
theorem write_num (d : Datum) (h : d.isNaN = false) : nanB (double.write d) = false ∧ double.write d < 18446744073709551616 := by
  refine ⟨?_, double.write_lt d⟩
  unfold nanB
  refine decide_eq_false (Nat.not_lt.2 ?_)
  have e3 : double.infRung = 9218868437227405312 := rfl
  cases d with
  | nan s f => cases h
  | infinity s => exact word_rung s _ (by rw [e3]; exact Nat.le_refl _)
  | number s m e =>
    show double.nearest s m e % _ ≤ _
    unfold Format.nearest
    dsimp only
    split
    · exact word_rung s 0 (Nat.zero_le _)
    · refine word_rung s _ ?_
      rw [← e3]
      exact Nat.min_le_right _ _
theorem add_num {x y r : Nat} (h : double.add x y = some r) : nanB r = false ∧ r < 18446744073709551616 := by
  unfold Format.add at h
  cases hs : (double.read x).sum (double.read y) with
  | none => rw [hs] at h; cases h
  | some d => rw [hs] at h; cases h; exact write_num d (sum_num hs)
theorem div_num {x y r : Nat} (h : double.div x y = some r) : nanB r = false ∧ r < 18446744073709551616 := by
  unfold Format.div at h
  cases hs : (double.read x).quotient (double.fractionBits + 2) (double.read y) with
  | none => rw [hs] at h; cases h
  | some d => rw [hs] at h; cases h; exact write_num d (quot_num hs)
theorem add_nan (x y : Nat) (h : nanB x = true) : double.add x y = none := by
  obtain ⟨s, f, e⟩ := read_nan x h
  unfold Format.add
  rw [e]
  rfl
theorem div_nan (x y : Nat) (h : nanB x = true) : double.div x y = none := by
  obtain ⟨s, f, e⟩ := read_nan x h
  unfold Format.div
  rw [e]
  rfl

/-- What an operation may give: its answer; some word that is no number, where it has none. -/
def FRes (o : Option Nat) (r : Nat) : Prop := (∀ v, o = some v → r = v) ∧ (o = none → nanB r = true) ∧ r < 18446744073709551616
/-- The same of what is known to be a number. -/
structure IsF (o : Option Nat) (r : Nat) : Prop where
  some : ∀ v, o = Option.some v → r = v ∧ nanB v = false
  none : o = Option.none → nanB r = true
  lt : r < 18446744073709551616

def fadd (o : Option Nat) (v : Nat) : Option Nat := o.bind fun s => double.add s v
def fdiv (o : Option Nat) (v : Nat) : Option Nat := o.bind fun s => double.div s v
def sumF (l : List Nat) : Option Nat := l.foldl fadd (some 0)
theorem sumF_snoc (l : List Nat) (v : Nat) : sumF (l ++ [v]) = fadd (sumF l) v := by simp [sumF]
theorem IsF.start : IsF (sumF []) 0 := ⟨fun v h => by cases h; exact ⟨rfl, rfl⟩, fun h => (by cases h), (by omega)⟩
theorem IsF.add {o : Option Nat} {s v r : Nat} (h : IsF o s) (hr : FRes (double.add s v) r) : IsF (fadd o v) r := by
  cases o with
  | none =>
    have := add_nan s v (h.none rfl)
    exact ⟨fun v h => (by cases h), fun _ => hr.2.1 this, hr.2.2⟩
  | some x =>
    obtain ⟨rfl, hx⟩ := h.some x rfl
    exact ⟨fun u hu => ⟨hr.1 u hu, (add_num hu).1⟩, fun hn => hr.2.1 hn, hr.2.2⟩
theorem IsF.div {o : Option Nat} {s v r : Nat} (h : IsF o s) (hr : FRes (double.div s v) r) : IsF (fdiv o v) r := by
  cases o with
  | none =>
    have := div_nan s v (h.none rfl)
    exact ⟨fun v h => (by cases h), fun _ => hr.2.1 this, hr.2.2⟩
  | some x =>
    obtain ⟨rfl, hx⟩ := h.some x rfl
    exact ⟨fun u hu => ⟨hr.1 u hu, (div_num hu).1⟩, fun hn => hr.2.1 hn, hr.2.2⟩
theorem IsF.same {o : Option Nat} {a b : Nat} (h : IsF o a) (k : IsF o b) : ordI a b = 0 := by
  rw [ordI_zero]
  cases o with
  | none => rw [(okey_nan a).1 (h.none rfl), (okey_nan b).1 (k.none rfl)]
  | some x => rw [(h.some x rfl).1, (k.some x rfl).1]
theorem IsF.nan {o : Option Nat} {a b : Nat} (h : IsF o a) (k : IsF o b) : nanB a = nanB b := by
  cases o with
  | none => rw [h.none rfl, k.none rfl]
  | some x => rw [(h.some x rfl).1, (k.some x rfl).1]

/-! What is whole. -/
def whole (b : Nat) : Bool := decide (b % 9223372036854775808 < 9218868437227405312)
theorem sub_whole (b : Nat) (hb : b < 18446744073709551616) (h : whole b = true) : double.sub b b = some 0 := by
  unfold whole at h
  obtain ⟨m, k, e, _⟩ := read_num b hb (of_decide_eq_true h)
  unfold Format.sub
  rw [e]
  simp only [Datum.opposite, Datum.sum, Option.map_some]
  have : signed (negB b) m (double.leastPlace + ↑k - min (double.leastPlace + ↑k) (double.leastPlace + ↑k)).toNat + signed (!negB b) m (double.leastPlace + ↑k - min (double.leastPlace + ↑k) (double.leastPlace + ↑k)).toNat = 0 := by
    unfold signed
    cases negB b <;> simp <;> omega
  rw [this]
  have e : (if (0 : Int) = 0 then negB b && !negB b else decide ((0 : Int) < 0)) = false := by cases negB b <;> rfl
  rw [e]
  rfl
theorem sub_odd (b : Nat) (hb : b < 18446744073709551616) (h : whole b = false) : double.sub b b = none := by
  unfold whole at h
  have h := of_decide_eq_false h
  unfold Format.sub
  by_cases h1 : b % 9223372036854775808 = 9218868437227405312
  · rw [read_inf b hb h1]
    simp only [Datum.opposite, Datum.sum]
    cases negB b <;> rfl
  · obtain ⟨s, f, e⟩ := read_nan b (by unfold nanB; exact decide_eq_true (by omega))
    rw [e]
    rfl

end Go.Proofs.Ytigafjnnadopbaa.flo
