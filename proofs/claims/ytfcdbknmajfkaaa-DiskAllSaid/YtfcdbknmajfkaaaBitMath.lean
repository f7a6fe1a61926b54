/- Numbers and texts as bytes: plain arithmetic. -/
import Derived.Test.YtfcdbknmajfkaaaRow
namespace Go.Proofs.Ytfcdbknmajfkaaa.bit
set_option maxRecDepth 100000
open Go.RowKit

/-- Byte i of v, counted from the lowest. -/
def byteAt (v : Int) (i : Nat) : Nat := ((v / 2 ^ (8 * i)) % 256).toNat
/-- The lowest n bytes of v, the highest first. -/
def low (v : Int) : Nat → List Nat
  | 0 => []
  | n + 1 => byteAt v n :: low v n
/-- The number of bytes, the highest first. -/
def num (zs : List Nat) : Nat := zs.foldl (fun a z => a * 256 + z) 0

theorem byteAt_lt (v : Int) (i : Nat) : byteAt v i < 256 := by unfold byteAt; omega
theorem byteAt_int (v : Int) (i : Nat) : (byteAt v i : Int) = (v / 2 ^ (8 * i)) % 256 := by unfold byteAt; omega
@[simp] theorem low_length (v : Int) : ∀ n, (low v n).length = n
  | 0 => rfl
  | n + 1 => by simp [low, low_length v n]
theorem low_lt (v : Int) : ∀ n, ∀ z ∈ low v n, z < 256
  | 0 => by simp [low]
  | n + 1 => by
    intro z hz
    simp only [low, List.mem_cons] at hz
    rcases hz with rfl | hz
    · exact byteAt_lt v n
    · exact low_lt v n z hz
theorem low_get (v : Int) : ∀ n i, i < n → (low v n)[i]? = some (byteAt v (n - 1 - i))
  | 0, i, h => by omega
  | n + 1, 0, _ => by simp [low]
  | n + 1, i + 1, h => by
    rw [low, List.getElem?_cons_succ, low_get v n i (by omega)]
    congr 2
    omega

theorem foldl_num (zs : List Nat) (a : Nat) : zs.foldl (fun a z => a * 256 + z) a = a * 256 ^ zs.length + num zs := by
  unfold num
  induction zs generalizing a with
  | nil => simp
  | cons z zs ih =>
    simp only [List.foldl_cons, List.length_cons]
    rw [ih (a * 256 + z), ih (0 * 256 + z), Nat.pow_succ]
    simp [Nat.add_mul, Nat.mul_assoc, Nat.mul_comm 256, Nat.add_assoc]
theorem num_cons (z : Nat) (zs : List Nat) : num (z :: zs) = z * 256 ^ zs.length + num zs := by
  have := foldl_num zs z
  unfold num at *
  simpa using this
theorem num_snoc (zs : List Nat) (z : Nat) : num (zs ++ [z]) = num zs * 256 + z := by
  unfold num; simp
theorem num_one (z : Nat) : num [z] = z := by simp [num]
theorem num_lt : ∀ (zs : List Nat), (∀ z ∈ zs, z < 256) → num zs < 256 ^ zs.length
  | [], _ => by simp [num]
  | z :: zs, h => by
    have h1 := h z (by simp)
    have h2 := num_lt zs fun x hx => h x (by simp [hx])
    rw [num_cons, List.length_cons, Nat.pow_succ]
    have : (z + 1) * 256 ^ zs.length ≤ 256 * 256 ^ zs.length := Nat.mul_le_mul_right _ (by omega)
    rw [Nat.add_mul] at this
    omega
theorem pow8 (n : Nat) : (2 : Int) ^ (8 * n) = 256 ^ n := by rw [Int.pow_mul]; rfl

theorem emod_two (v B : Int) (hB : 0 < B) : (v / B % 256) * B + v % B = v % (B * 256) := by
  have e1 := Int.emod_add_mul_ediv v B
  have e2 := Int.emod_add_mul_ediv (v / B) 256
  have r0 := Int.emod_nonneg v (by omega : B ≠ 0)
  have r1 := Int.emod_lt_of_pos v hB
  have s0 := Int.emod_nonneg (v / B) (by omega : (256 : Int) ≠ 0)
  have s1 := Int.emod_lt_of_pos (v / B) (by omega : (0 : Int) < 256)
  generalize v % B = r at *
  generalize v / B % 256 = s at *
  generalize v / B / 256 = q at *
  rw [← e2] at e1
  have e3 : v = (s * B + r) + B * 256 * q := by
    rw [← e1, Int.mul_add, Int.mul_comm B s, ← Int.mul_assoc]
    omega
  rw [e3, Int.add_mul_emod_self_left, Int.emod_eq_of_lt]
  · exact Int.add_nonneg (Int.mul_nonneg s0 (by omega)) r0
  · have : (s + 1) * B ≤ 256 * B := Int.mul_le_mul_of_nonneg_right (by omega) (by omega)
    rw [Int.add_mul, Int.one_mul, Int.mul_comm 256 B] at this
    omega
theorem num_low (v : Int) : ∀ n, (num (low v n) : Int) = v % 2 ^ (8 * n)
  | 0 => by simp [low, num]
  | n + 1 => by
    rw [low, num_cons, low_length, Int.natCast_add, num_low v n, Int.natCast_mul, byteAt_int, Int.natCast_pow, pow8, pow8, Int.pow_succ]
    exact emod_two v (256 ^ n) (Int.pow_pos (by omega))

/-- A number's step. -/
theorem num_step {zs : List Nat} {k : Nat} (h : k < zs.length) : num (zs.take (k + 1)) = num (zs.take k) * 256 + zs.getD k 0 := by
  rw [List.take_add_one, show zs[k]?.toList = [zs.getD k 0] by simp [List.getD, h], num_snoc]
theorem num_take_lt {zs : List Nat} (h : ∀ z ∈ zs, z < 256) (k : Nat) : num (zs.take k) < 256 ^ k := by
  have := num_lt (zs.take k) fun z hz => h z (List.mem_of_mem_take hz)
  exact Nat.lt_of_lt_of_le this (Nat.pow_le_pow_right (by omega) (List.length_take_le _ _))

/-- A text of bytes. -/
def ofN (zs : List Nat) : ByteArray := ⟨(zs.map UInt8.ofNat).toArray⟩
/-- A text's bytes. -/
def toN (s : ByteArray) : List Nat := s.data.toList.map UInt8.toNat
theorem toN_length (s : ByteArray) : (toN s).length = s.size := by
  unfold toN
  rw [List.length_map, Array.length_toList]
  rfl
theorem toN_lt (s : ByteArray) : ∀ z ∈ toN s, z < 256 := by
  intro z hz
  obtain ⟨b, _, rfl⟩ := List.mem_map.1 hz
  exact b.toNat_lt
theorem ofN_toN (s : ByteArray) : ofN (toN s) = s := by
  unfold ofN toN
  rw [List.map_map]
  have : (UInt8.ofNat ∘ UInt8.toNat) = id := by funext b; exact UInt8.ofNat_toNat
  rw [this, List.map_id]
theorem toN_ofN {zs : List Nat} (h : ∀ z ∈ zs, z < 256) : toN (ofN zs) = zs := by
  unfold ofN toN
  simp only [List.map_map]
  conv => rhs; rw [← List.map_id zs]
  refine List.map_congr_left fun z hz => ?_
  exact Nat.mod_eq_of_lt (h z hz)
theorem ofN_inj {xs ys : List Nat} (hx : ∀ z ∈ xs, z < 256) (hy : ∀ z ∈ ys, z < 256) (h : ofN xs = ofN ys) : xs = ys := by
  rw [← toN_ofN hx, h, toN_ofN hy]
theorem ofN_size (zs : List Nat) : (ofN zs).size = zs.length := by
  show ((zs.map UInt8.ofNat).toArray).size = _
  rw [List.size_toArray, List.length_map]

theorem u8s_take (xs : List Nat) (k : Nat) : u8s (xs.take k) = (u8s xs).take k := by simp [u8s, List.map_take]
theorem u8s_drop (xs : List Nat) (k : Nat) : u8s (xs.drop k) = (u8s xs).drop k := by simp [u8s, List.map_drop]
theorem u8s_append (xs ys : List Nat) : u8s (xs ++ ys) = u8s xs ++ u8s ys := by simp [u8s]

theorem RowV.len8 {w : World} {v : Value} {xs : List Nat} (h : RowV w v (u8s xs)) : ∃ a cap, v = .slice a xs.length cap ∧ xs.length ≤ cap ∧ cap ≤ 9223372036854775807 := by
  obtain ⟨a, cap, e, h1, h2⟩ := h.len
  rw [u8s_length] at e h1
  exact ⟨a, cap, e, h1, by unfold maxLen at h2; omega⟩

/-- What Put puts behind. -/
def put (v n : Int) : List Nat := if 1 ≤ n ∧ n ≤ 8 then low v n.toNat else []
theorem put_lt (v n : Int) : ∀ z ∈ put v n, z < 256 := by
  unfold put; split
  · exact low_lt v _
  · simp
theorem put_length_le (v n : Int) : (put v n).length ≤ 8 := by
  unfold put; split
  · rw [low_length]; omega
  · simp
/-- What Text puts behind. -/
def txt (s : ByteArray) : List Nat := if s.size ≤ 255 then s.size :: toN s else []
theorem txt_lt (s : ByteArray) : ∀ z ∈ txt s, z < 256 := by
  unfold txt; split
  · intro z hz
    rcases List.mem_cons.1 hz with rfl | hz
    · omega
    · exact toN_lt s z hz
  · simp
theorem txt_length_le (s : ByteArray) : (txt s).length ≤ 256 := by
  unfold txt; split
  · simp [toN_length]; omega
  · simp

/-- May a number of n bytes be taken off l? -/
def mayTake (len : Nat) (n : Int) : Bool := decide (1 ≤ n ∧ n ≤ 7 ∧ n ≤ len)
def taken (zs : List Nat) (n : Int) : Nat := if mayTake zs.length n then num (zs.take n.toNat) else 0
/-- May a text be taken off l? -/
def mayText (zs : List Nat) : Bool := decide (1 ≤ zs.length ∧ zs.getD 0 0 + 1 ≤ zs.length)
def text (zs : List Nat) : List Nat := if mayText zs then (zs.take (zs.getD 0 0 + 1)).drop 1 else []
def textN (zs : List Nat) : Nat := if mayText zs then zs.getD 0 0 + 1 else 0

end Go.Proofs.Ytfcdbknmajfkaaa.bit
