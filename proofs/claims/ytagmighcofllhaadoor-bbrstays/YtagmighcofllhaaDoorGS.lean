/- Texts: SPlain, SLeaf, SMul, SLen, SDigit, SDiv, SMulDiv, SSteps, SRefMul, SRef -/
import Derived.RowKit
import Derived.Test.YtagmighcofllhaaDoorRows
import Derived.WalkKit
import Derived.ProofKit
import Derived.OpenShut
import Derived.Laws.Bits64b
import Derived.Deep.DeepCutAuto
import Derived.Deep.CutBlock
import Derived.Deep.LoopGhost
import Derived.BigQuiet
import Derived.Deep.QuietTactic
namespace Go.Proofs.YtagmighcofllhaaDoor

def diffI (a b : Int) : Int := (b - a + 2147483648) % 4294967296 - 2147483648
def lessB (a b : Int) : Bool := decide (0 < diffI a b)
def withinB (x low n : Int) : Bool := decide ((x - low) % 4294967296 < n)
def addI (a n : Int) : Int := (a + n) % 4294967296
def modI (n : Int) : Int := n % 4294967296
def sumI (a b : Int) : Int := if 9223372036854775807 < a + b then 9223372036854775807 else if a + b < -9223372036854775808 then -9223372036854775808 else a + b
def unwrapI (base s : Int) : Int := sumI base (diffI (modI base) s)
def clampI (x low high : Int) : Int := if x < low then low else if high < low then low else if high < x then high else x

theorem diff_bd (a b : Int) : -2147483648 ≤ diffI a b ∧ diffI a b ≤ 2147483647 := by unfold diffI; omega
theorem mod_bd (n : Int) : 0 ≤ modI n ∧ modI n ≤ 4294967295 := by unfold modI; omega
theorem add_bd (a n : Int) : 0 ≤ addI a n ∧ addI a n ≤ 4294967295 := by unfold addI; omega
theorem sum_bd (a b : Int) : -9223372036854775808 ≤ sumI a b ∧ sumI a b ≤ 9223372036854775807 := by unfold sumI; split <;> (try split) <;> omega

/-- Of two numbers up to 2^32 the difference, wrapped. -/
theorem diff_wrap (a b : Int) : Go.RowKit.wrap64 (Go.RowKit.wrap32 ((b - a) % 4294967296)) = diffI a b := by
  unfold Go.RowKit.wrap64 Go.RowKit.wrap32 diffI; omega
theorem add_wrap (a n : Int) : (a + n % 4294967296) % 4294967296 = addI a n := by unfold addI; omega

/-- r is the cube root of n, cut downwards (and at 2097151). -/
structure Root (n r : Int) : Prop where
  lo : 0 ≤ r
  hi : r ≤ 2097151
  le : r = 0 ∨ r * r * r ≤ n
  lt : r = 2097151 ∨ n < (r + 1) * (r + 1) * (r + 1)

theorem cube_mono {a b : Int} (h0 : 0 ≤ a) (h : a ≤ b) : a * a * a ≤ b * b * b := by
  have h1 : a * a ≤ b * b := Int.mul_le_mul h h h0 (by omega)
  exact Int.mul_le_mul h1 h h0 (Int.mul_nonneg (by omega) (by omega))

theorem cube_pos {a : Int} (h : 1 ≤ a) : 1 ≤ a * a * a := by
  have := cube_mono (a := 1) (b := a) (by omega) h
  omega

theorem cube_hi {a : Int} (h0 : 0 ≤ a) (h : a ≤ 2097151) : 0 ≤ a * a ∧ a * a ≤ 4398042316801 ∧ 0 ≤ a * a * a ∧ a * a * a ≤ 9223358842721533951 := by
  have h1 : a * a ≤ 2097151 * 2097151 := Int.mul_le_mul h h h0 (by omega)
  have h2 : 0 ≤ a * a := Int.mul_nonneg h0 h0
  have h3 := cube_mono h0 h
  have h4 : 0 ≤ a * a * a := Int.mul_nonneg h2 h0
  omega

theorem Root.unique {n r s : Int} (hr : Root n r) (hs : Root n s) : r = s := by
  have key : ∀ {r s : Int}, Root n r → Root n s → ¬ r < s := by
    intro r s hr hs hlt
    have h1 : n < (r + 1) * (r + 1) * (r + 1) := by
      rcases hr.lt with h | h
      · have := hs.hi; omega
      · exact h
    have h2 : s * s * s ≤ n := by
      rcases hs.le with h | h
      · have := hr.lo; omega
      · exact h
    have h3 := cube_mono (a := r + 1) (b := s) (by have := hr.lo; omega) (by omega)
    omega
  have a := key hr hs
  have b := key hs hr
  omega

def cbrtGo (n : Int) : Nat → Int
  | 0 => 0
  | k + 1 => if ((k : Int) + 1) * ((k : Int) + 1) * ((k : Int) + 1) ≤ n then (k : Int) + 1 else cbrtGo n k

theorem cbrtGo_is (n : Int) (k : Nat) : 0 ≤ cbrtGo n k ∧ cbrtGo n k ≤ k ∧ (cbrtGo n k = 0 ∨ cbrtGo n k * cbrtGo n k * cbrtGo n k ≤ n) ∧ (cbrtGo n k = k ∨ n < (cbrtGo n k + 1) * (cbrtGo n k + 1) * (cbrtGo n k + 1)) := by
  induction k with
  | zero => simp [cbrtGo]
  | succ k ih =>
    unfold cbrtGo
    split
    · rename_i h
      exact ⟨by omega, by omega, Or.inr h, Or.inl (by omega)⟩
    · rename_i h
      obtain ⟨i1, i2, i3, i4⟩ := ih
      refine ⟨i1, by omega, i3, Or.inr ?_⟩
      rcases i4 with i4 | i4
      · rw [i4]; omega
      · exact i4

def cbrtI (n : Int) : Int := cbrtGo n 2097151
theorem cbrt_root (n : Int) : Root n (cbrtI n) := by
  obtain ⟨a, b, c, d⟩ := cbrtGo_is n 2097151
  exact ⟨a, b, c, d⟩
theorem cbrt_eq {n r : Int} (h : Root n r) : cbrtI n = r := (cbrt_root n).unique h
theorem cbrt_26 : cbrtI 26 = 2 := cbrt_eq ⟨by omega, by omega, Or.inr (by omega), Or.inr (by omega)⟩

/-- The product by a number, downwards, at most the greatest. -/
def mulDivI (a b c : Int) : Int := if a < 0 ∨ b < 0 ∨ c ≤ 0 then 0 else if 9223372036854775807 < a * b / c then 9223372036854775807 else a * b / c
def mulDivE (a b c : Int) : Int := if a < 0 ∨ b < 0 ∨ c ≤ 0 then 2 else 0
end Go.Proofs.YtagmighcofllhaaDoor

/- The contracts of the small functions of package seq, and of their twins of the document's answer. -/
namespace Go.Proofs.YtagmighcofllhaaDoor
open Go.ChangeShapes Go.WideShapes Go.ChangeAt Go.RowKit
set_option linter.unusedVariables false

theorem ret_int {k : IntKind} {a b : Int} (h : a = b) : Ending.returned (.int k a) = .returned (.int k b) := by rw [h]
theorem ret_bool {a b : Bool} (h : a = b) : Ending.returned (.bool a) = .returned (.bool b) := by rw [h]

theorem clamp_walk (x low high : Int) (w : World) :
    Calls Tryd.prog 62 #[.int .i64 x, .int .i64 low, .int .i64 high] w fun e w' => e = .returned (.int .i64 (clampI x low high)) ∧ w' = w := by
  go_enter Tryd.func62, Tryd.ntmps62
  go_wp2
  all_goals go_ret
  all_goals (refine ⟨ret_int ?_, rfl⟩; unfold clampI; first | omega | (split <;> (try split) <;> (try split) <;> omega))

end Go.Proofs.YtagmighcofllhaaDoor

/- The contract of the product of two words, in two words. -/
namespace Go.Proofs.YtagmighcofllhaaDoor
open Go.ChangeShapes Go.WideShapes Go.ChangeAt Go.RowKit
set_option linter.unusedVariables false

theorem low_half (a : Int) (h0 : 0 ≤ a) (h1 : a < 18446744073709551616) : bits .and .u64 a 4294967295 = a % 4294967296 := by
  obtain ⟨n, rfl⟩ := Int.eq_ofNat_of_zero_le h0
  have h := bits_and_u64_nat n 4294967295 (by omega) (by omega)
  rw [Nat.and_two_pow_sub_one_eq_mod n 32] at h
  refine h.trans ?_
  omega

theorem halves_bd {a b : Int} (ha : 0 ≤ a ∧ a ≤ 4294967295) (hb : 0 ≤ b ∧ b ≤ 4294967295) : 0 ≤ a * b ∧ a * b ≤ 18446744065119617025 :=
  ⟨Int.mul_nonneg ha.1 hb.1, by have := Int.mul_le_mul ha.2 hb.2 hb.1 (by omega : (0:Int) ≤ 4294967295); omega⟩

/-- The product by its halves. -/
theorem by_halves (x y : Int) : x * y = x / 4294967296 * (y / 4294967296) * 18446744073709551616 + (x / 4294967296 * (y % 4294967296) + x % 4294967296 * (y / 4294967296)) * 4294967296 + x % 4294967296 * (y % 4294967296) := by
  have hx : x = x / 4294967296 * 4294967296 + x % 4294967296 := by omega
  have hy : y = y / 4294967296 * 4294967296 + y % 4294967296 := by omega
  generalize x / 4294967296 = a at *
  generalize x % 4294967296 = b at *
  generalize y / 4294967296 = c at *
  generalize y % 4294967296 = d at *
  subst hx hy
  rw [Int.add_mul, Int.mul_add, Int.mul_add, Int.add_mul]
  rw [Int.mul_right_comm a 4294967296 d, ← Int.mul_assoc b c 4294967296, ← Int.mul_assoc (a * 4294967296) c 4294967296, Int.mul_right_comm a 4294967296 c]
  omega

theorem mul_high (x y : Int) (hx : 0 ≤ x ∧ x < 18446744073709551616) (hy : 0 ≤ y ∧ y < 18446744073709551616) :
    x / 4294967296 * (y / 4294967296) + (x / 4294967296 * (y % 4294967296) + x % 4294967296 * (y % 4294967296) / 4294967296) / 4294967296 + ((x / 4294967296 * (y % 4294967296) + x % 4294967296 * (y % 4294967296) / 4294967296) % 4294967296 + x % 4294967296 * (y / 4294967296)) / 4294967296 = x * y / 18446744073709551616 := by
  have e := by_halves x y
  rw [e]
  generalize x / 4294967296 * (y / 4294967296) = p11
  generalize x / 4294967296 * (y % 4294967296) = p10
  generalize x % 4294967296 * (y / 4294967296) = p01
  generalize x % 4294967296 * (y % 4294967296) = p00
  omega

theorem ret_two {k l : IntKind} {a b c d : Int} (h : a = b) (g : c = d) : Ending.returned (.tuple #[.int k a, .int l c]) = .returned (.tuple #[.int k b, .int l d]) := by rw [h, g]

set_option maxHeartbeats 400000 in
theorem mul_walk (x y : Int) (hx : 0 ≤ x ∧ x < 18446744073709551616) (hy : 0 ≤ y ∧ y < 18446744073709551616) (w : World) :
    Calls Tryd.prog 83 #[.int .u64 x, .int .u64 y] w fun e w' => e = .returned (.tuple #[.int .u64 (x * y / 18446744073709551616), .int .u64 (x * y % 18446744073709551616)]) ∧ w' = w := by
  have x0 := low_half x hx.1 hx.2
  have y0 := low_half y hy.1 hy.2
  have p11 := halves_bd (a := x / 4294967296) (b := y / 4294967296) (by omega) (by omega)
  have p10 := halves_bd (a := x / 4294967296) (b := y % 4294967296) (by omega) (by omega)
  have p01 := halves_bd (a := x % 4294967296) (b := y / 4294967296) (by omega) (by omega)
  have p00 := halves_bd (a := x % 4294967296) (b := y % 4294967296) (by omega) (by omega)
  have t0 := low_half (x / 4294967296 * (y % 4294967296) + x % 4294967296 * (y % 4294967296) / 4294967296) (by omega) (by omega)
  go_enter Tryd.func83, Tryd.ntmps83
  go_wp2
  go_ret2
  refine ⟨ret_two ?_ ?_, rfl⟩
  · exact mul_high x y hx hy
  · exact IntKind.wrap_u64 _
end Go.Proofs.YtagmighcofllhaaDoor

/- How many bits a word has. -/
namespace Go.Proofs.YtagmighcofllhaaDoor
open Go.ChangeShapes Go.WideShapes Go.ChangeAt Go.RowKit
set_option linter.unusedVariables false

/-- Of each number below 256 how many bits it has. -/
def bitsOf : ByteArray := { data := #[0, 1, 2, 2, 3, 3, 3, 3, 4, 4, 4, 4, 4, 4, 4, 4, 5, 5, 5, 5, 5, 5, 5, 5, 5, 5, 5, 5, 5, 5, 5, 5, 6, 6, 6, 6, 6, 6, 6, 6, 6, 6, 6, 6, 6, 6, 6, 6, 6, 6, 6, 6, 6, 6, 6, 6, 6, 6, 6, 6, 6, 6, 6, 6, 7, 7, 7, 7, 7, 7, 7, 7, 7, 7, 7, 7, 7, 7, 7, 7, 7, 7, 7, 7, 7, 7, 7, 7, 7, 7, 7, 7, 7, 7, 7, 7, 7, 7, 7, 7, 7, 7, 7, 7, 7, 7, 7, 7, 7, 7, 7, 7, 7, 7, 7, 7, 7, 7, 7, 7, 7, 7, 7, 7, 7, 7, 7, 7, 8, 8, 8, 8, 8, 8, 8, 8, 8, 8, 8, 8, 8, 8, 8, 8, 8, 8, 8, 8, 8, 8, 8, 8, 8, 8, 8, 8, 8, 8, 8, 8, 8, 8, 8, 8, 8, 8, 8, 8, 8, 8, 8, 8, 8, 8, 8, 8, 8, 8, 8, 8, 8, 8, 8, 8, 8, 8, 8, 8, 8, 8, 8, 8, 8, 8, 8, 8, 8, 8, 8, 8, 8, 8, 8, 8, 8, 8, 8, 8, 8, 8, 8, 8, 8, 8, 8, 8, 8, 8, 8, 8, 8, 8, 8, 8, 8, 8, 8, 8, 8, 8, 8, 8, 8, 8, 8, 8, 8, 8, 8, 8, 8, 8, 8, 8, 8, 8, 8, 8, 8, 8, 8, 8, 8, 8, 8, 8] }

theorem bitsOf_size : bitsOf.size = 256 := by decide +kernel

theorem bitsOf_all : ∀ j : Fin 256, 1 ≤ j.val → 1 ≤ (bitsOf[j.val]'(by rw [bitsOf_size]; exact j.isLt)).toNat ∧ (bitsOf[j.val]'(by rw [bitsOf_size]; exact j.isLt)).toNat ≤ 8 ∧ 2 ^ ((bitsOf[j.val]'(by rw [bitsOf_size]; exact j.isLt)).toNat - 1) ≤ j.val ∧ j.val < 2 ^ (bitsOf[j.val]'(by rw [bitsOf_size]; exact j.isLt)).toNat := by
  decide +kernel

/-- n is how many bits y has. -/
def Long (y : Int) (n : Nat) : Prop := 1 ≤ n ∧ n ≤ 64 ∧ (2 : Int) ^ (n - 1) ≤ y ∧ y < (2 : Int) ^ n

theorem long_of (y : Int) (t j : Nat) (hj : j < bitsOf.size) (h1 : 1 ≤ j) (ht : t ≤ 56) (hlo : (2 : Int) ^ t * j ≤ y) (hhi : y < (2 : Int) ^ t * (j + 1)) :
    bitsOf[j].toNat ≤ 8 ∧ Long y (t + bitsOf[j].toNat) := by
  have hj' : j < 256 := by rw [bitsOf_size] at hj; exact hj
  obtain ⟨b1, b2, b3, b4⟩ := bitsOf_all ⟨j, hj'⟩ h1
  refine ⟨b2, ?_⟩
  generalize hn : (bitsOf[j]'hj).toNat = n
  have hn' : (bitsOf[(⟨j, hj'⟩ : Fin 256).val]'(by rw [bitsOf_size]; exact hj')).toNat = n := hn
  rw [hn'] at b1 b2 b3 b4
  simp only at b3 b4
  refine ⟨by omega, by omega, ?_, ?_⟩
  · have e : t + n - 1 = t + (n - 1) := by omega
    rw [e, Int.pow_add]
    have h2 : (2 : Int) ^ (n - 1) ≤ j := by exact_mod_cast b3
    exact Int.le_trans (Int.mul_le_mul_of_nonneg_left h2 (by exact Int.le_of_lt (Int.pow_pos (by omega)))) hlo
  · rw [Int.pow_add]
    have h2 : (j : Int) + 1 ≤ (2 : Int) ^ n := by exact_mod_cast b4
    exact Int.lt_of_lt_of_le hhi (Int.mul_le_mul_of_nonneg_left h2 (by exact Int.le_of_lt (Int.pow_pos (by omega))))

theorem len_end {y : Int} {w : World} (t j : Nat) (x : Int) (hj : j < bitsOf.size) (h1 : 1 ≤ j) (ht : t ≤ 56) (hlo : (2 : Int) ^ t * j ≤ y) (hhi : y < (2 : Int) ^ t * (j + 1)) (hx : bitsOf[j].toNat ≤ 8 → x = ((t + bitsOf[j].toNat : Nat) : Int)) :
    (∃ n : Nat, Ending.returned (.int .i64 x) = .returned (.int .i64 n) ∧ Long y n) ∧ w = w := by
  obtain ⟨a, b⟩ := long_of y t j hj h1 ht hlo hhi
  exact ⟨⟨_, ret_int (hx a), b⟩, rfl⟩

set_option maxRecDepth 1000000 in
set_option maxHeartbeats 1000000 in
theorem len_walk0 (y : Int) (h0 : 1 ≤ y) (hy : y < 256) (w : World) :
    Calls Tryd.prog 88 #[.int .u64 y] w fun e w' => (∃ n : Nat, e = .returned (.int .i64 n) ∧ Long y n) ∧ w' = w := by
  go_enter Tryd.func88, Tryd.ntmps88
  go_wp2
  go_ret
  refine len_end 0 (y).toNat _ (by rw [bitsOf_size]; omega) (by omega) (by omega) (by omega) (by omega) ?_
  intro hb
  show wrap64 (wrap64 ((bitsOf[(y).toNat]'(by rw [bitsOf_size]; omega)).toNat : Int)) = _
  generalize (bitsOf[(y).toNat]'(by rw [bitsOf_size]; omega)).toNat = n at *
  unfold wrap64
  omega

set_option maxRecDepth 1000000 in
set_option maxHeartbeats 1000000 in
theorem len_walk8 (y : Int) (h0 : 256 ≤ y) (hy : y < 65536) (w : World) :
    Calls Tryd.prog 88 #[.int .u64 y] w fun e w' => (∃ n : Nat, e = .returned (.int .i64 n) ∧ Long y n) ∧ w' = w := by
  go_enter Tryd.func88, Tryd.ntmps88
  go_wp2
  go_ret
  refine len_end 8 (y / 256).toNat _ (by rw [bitsOf_size]; omega) (by omega) (by omega) (by omega) (by omega) ?_
  intro hb
  show wrap64 (8 + wrap64 ((bitsOf[(y / 256).toNat]'(by rw [bitsOf_size]; omega)).toNat : Int)) = _
  generalize (bitsOf[(y / 256).toNat]'(by rw [bitsOf_size]; omega)).toNat = n at *
  unfold wrap64
  omega

set_option maxRecDepth 1000000 in
set_option maxHeartbeats 1000000 in
theorem len_walk16 (y : Int) (h0 : 65536 ≤ y) (hy : y < 16777216) (w : World) :
    Calls Tryd.prog 88 #[.int .u64 y] w fun e w' => (∃ n : Nat, e = .returned (.int .i64 n) ∧ Long y n) ∧ w' = w := by
  go_enter Tryd.func88, Tryd.ntmps88
  go_wp2
  go_ret
  refine len_end 16 (y / 65536).toNat _ (by rw [bitsOf_size]; omega) (by omega) (by omega) (by omega) (by omega) ?_
  intro hb
  show wrap64 (16 + wrap64 ((bitsOf[(y / 65536).toNat]'(by rw [bitsOf_size]; omega)).toNat : Int)) = _
  generalize (bitsOf[(y / 65536).toNat]'(by rw [bitsOf_size]; omega)).toNat = n at *
  unfold wrap64
  omega

set_option maxRecDepth 1000000 in
set_option maxHeartbeats 1000000 in
theorem len_walk24 (y : Int) (h0 : 16777216 ≤ y) (hy : y < 4294967296) (w : World) :
    Calls Tryd.prog 88 #[.int .u64 y] w fun e w' => (∃ n : Nat, e = .returned (.int .i64 n) ∧ Long y n) ∧ w' = w := by
  go_enter Tryd.func88, Tryd.ntmps88
  go_wp2
  go_ret
  refine len_end 24 (y / 65536 / 256).toNat _ (by rw [bitsOf_size]; omega) (by omega) (by omega) (by omega) (by omega) ?_
  intro hb
  show wrap64 (24 + wrap64 ((bitsOf[(y / 65536 / 256).toNat]'(by rw [bitsOf_size]; omega)).toNat : Int)) = _
  generalize (bitsOf[(y / 65536 / 256).toNat]'(by rw [bitsOf_size]; omega)).toNat = n at *
  unfold wrap64
  omega

set_option maxRecDepth 1000000 in
set_option maxHeartbeats 1000000 in
theorem len_walk32 (y : Int) (h0 : 4294967296 ≤ y) (hy : y < 1099511627776) (w : World) :
    Calls Tryd.prog 88 #[.int .u64 y] w fun e w' => (∃ n : Nat, e = .returned (.int .i64 n) ∧ Long y n) ∧ w' = w := by
  go_enter Tryd.func88, Tryd.ntmps88
  go_wp2
  go_ret
  refine len_end 32 (y / 4294967296).toNat _ (by rw [bitsOf_size]; omega) (by omega) (by omega) (by omega) (by omega) ?_
  intro hb
  show wrap64 (32 + wrap64 ((bitsOf[(y / 4294967296).toNat]'(by rw [bitsOf_size]; omega)).toNat : Int)) = _
  generalize (bitsOf[(y / 4294967296).toNat]'(by rw [bitsOf_size]; omega)).toNat = n at *
  unfold wrap64
  omega

set_option maxRecDepth 1000000 in
set_option maxHeartbeats 1000000 in
theorem len_walk40 (y : Int) (h0 : 1099511627776 ≤ y) (hy : y < 281474976710656) (w : World) :
    Calls Tryd.prog 88 #[.int .u64 y] w fun e w' => (∃ n : Nat, e = .returned (.int .i64 n) ∧ Long y n) ∧ w' = w := by
  go_enter Tryd.func88, Tryd.ntmps88
  go_wp2
  go_ret
  refine len_end 40 (y / 4294967296 / 256).toNat _ (by rw [bitsOf_size]; omega) (by omega) (by omega) (by omega) (by omega) ?_
  intro hb
  show wrap64 (40 + wrap64 ((bitsOf[(y / 4294967296 / 256).toNat]'(by rw [bitsOf_size]; omega)).toNat : Int)) = _
  generalize (bitsOf[(y / 4294967296 / 256).toNat]'(by rw [bitsOf_size]; omega)).toNat = n at *
  unfold wrap64
  omega

set_option maxRecDepth 1000000 in
set_option maxHeartbeats 1000000 in
theorem len_walk48 (y : Int) (h0 : 281474976710656 ≤ y) (hy : y < 72057594037927936) (w : World) :
    Calls Tryd.prog 88 #[.int .u64 y] w fun e w' => (∃ n : Nat, e = .returned (.int .i64 n) ∧ Long y n) ∧ w' = w := by
  go_enter Tryd.func88, Tryd.ntmps88
  go_wp2
  go_ret
  refine len_end 48 (y / 4294967296 / 65536).toNat _ (by rw [bitsOf_size]; omega) (by omega) (by omega) (by omega) (by omega) ?_
  intro hb
  show wrap64 (48 + wrap64 ((bitsOf[(y / 4294967296 / 65536).toNat]'(by rw [bitsOf_size]; omega)).toNat : Int)) = _
  generalize (bitsOf[(y / 4294967296 / 65536).toNat]'(by rw [bitsOf_size]; omega)).toNat = n at *
  unfold wrap64
  omega

set_option maxRecDepth 1000000 in
set_option maxHeartbeats 1000000 in
theorem len_walk56 (y : Int) (h0 : 72057594037927936 ≤ y) (hy : y < 18446744073709551616) (w : World) :
    Calls Tryd.prog 88 #[.int .u64 y] w fun e w' => (∃ n : Nat, e = .returned (.int .i64 n) ∧ Long y n) ∧ w' = w := by
  go_enter Tryd.func88, Tryd.ntmps88
  go_wp2
  go_ret
  refine len_end 56 (y / 4294967296 / 65536 / 256).toNat _ (by rw [bitsOf_size]; omega) (by omega) (by omega) (by omega) (by omega) ?_
  intro hb
  show wrap64 (56 + wrap64 ((bitsOf[(y / 4294967296 / 65536 / 256).toNat]'(by rw [bitsOf_size]; omega)).toNat : Int)) = _
  generalize (bitsOf[(y / 4294967296 / 65536 / 256).toNat]'(by rw [bitsOf_size]; omega)).toNat = n at *
  unfold wrap64
  omega

theorem len_walk (y : Int) (h0 : 1 ≤ y) (hy : y < 18446744073709551616) (w : World) :
    Calls Tryd.prog 88 #[.int .u64 y] w fun e w' => (∃ n : Nat, e = .returned (.int .i64 n) ∧ Long y n) ∧ w' = w := by
  by_cases c0 : y < 256
  · exact len_walk0 y (by omega) c0 w
  by_cases c8 : y < 65536
  · exact len_walk8 y (by omega) c8 w
  by_cases c16 : y < 16777216
  · exact len_walk16 y (by omega) c16 w
  by_cases c24 : y < 4294967296
  · exact len_walk24 y (by omega) c24 w
  by_cases c32 : y < 1099511627776
  · exact len_walk32 y (by omega) c32 w
  by_cases c40 : y < 281474976710656
  · exact len_walk40 y (by omega) c40 w
  by_cases c48 : y < 72057594037927936
  · exact len_walk48 y (by omega) c48 w
  exact len_walk56 y (by omega) hy w

theorem lead_walk (y : Int) (h0 : 1 ≤ y) (hy : y < 18446744073709551616) (w : World) :
    Calls Tryd.prog 87 #[.int .u64 y] w fun e w' => (∃ n : Nat, e = .returned (.int .i64 (64 - (n : Int))) ∧ Long y n) ∧ w' = w := by
  go_enter Tryd.func87, Tryd.ntmps87
  go_wp2_with fail
  refine (len_walk y h0 hy _).mono ?_
  rintro e w' ⟨⟨n, rfl, hL⟩, rfl⟩
  have hn1 := hL.1
  have hn2 := hL.2.1
  have H : Hid (Long y n) := hL
  clear hL
  go_wp2
  go_ret
  exact ⟨⟨n, rfl, H.out⟩, rfl⟩
end Go.Proofs.YtagmighcofllhaaDoor

/- One digit of a long division: the plain arithmetic, with no Go in sight. -/
namespace Go.Proofs.YtagmighcofllhaaDoor

/-- q is a guess, not too small, of the digit of (u, v) by (d, e), and r what it leaves of u. -/
structure Guess (u v d e q r : Int) : Prop where
  eq : q * d + r = u
  q0 : 0 ≤ q
  q1 : q ≤ 4294967297
  r0 : 0 ≤ r
  up : (u * 4294967296 + v) / (d * 4294967296 + e) ≤ q

structure Known (u v d e : Int) : Prop where
  d0 : 2147483648 ≤ d
  d1 : d ≤ 4294967295
  e0 : 0 ≤ e
  e1 : e ≤ 4294967295
  v0 : 0 ≤ v
  v1 : v ≤ 4294967295
  u0 : 0 ≤ u
  u1 : u < d * 4294967296 + e

theorem Known.first {u v d e : Int} (k : Known u v d e) : Guess u v d e (u / d) (u - u / d * d) := by
  have h1 := k.d0
  have h2 := k.u0
  have hq : 0 ≤ u / d := Int.ediv_nonneg h2 (by omega)
  have hm : u / d * d ≤ u := Int.ediv_mul_le u (by omega)
  have hlt : u < (u / d + 1) * d := Int.lt_ediv_add_one_mul_self u (by omega)
  refine ⟨by omega, hq, ?_, by omega, ?_⟩
  · have h3 := k.u1
    have h4 := k.e1
    have h5 : u / d < 4294967298 := Int.ediv_lt_of_lt_mul (by omega) (by omega)
    omega
  · -- N < (q+1)*D
    have h3 := k.v1
    have h4 := k.e0
    have h6 : (u * 4294967296 + v) / (d * 4294967296 + e) < u / d + 1 := by
      refine Int.ediv_lt_of_lt_mul (by omega) ?_
      rw [Int.mul_add, ← Int.mul_assoc]
      have h7 : 0 ≤ (u / d + 1) * e := Int.mul_nonneg (by omega) h4
      generalize (u / d + 1) * d = p at *
      omega
    omega

theorem Known.small {u v d e : Int} (k : Known u v d e) : u - u / d * d < 4294967296 := by
  have h1 := k.d0
  have h2 := k.d1
  have hlt : u < (u / d + 1) * d := Int.lt_ediv_add_one_mul_self u (by omega)
  rw [Int.add_mul] at hlt
  omega

/-- Too great a guess: one less is one still. -/
theorem Guess.less {u v d e q r : Int} (g : Guess u v d e q r) (k : Known u v d e) (h : 4294967296 ≤ q ∨ 4294967296 * r + v < q * e) :
    1 ≤ q ∧ q - 1 ≤ 4294967296 ∧ Guess u v d e (q - 1) (r + d) := by
  have hd := k.d0
  have he := k.e0
  have hv := k.v0
  have hv1 := k.v1
  have hu := k.u1
  have hr := g.r0
  have hq0 := g.q0
  have hq : 1 ≤ q := by
    rcases h with h | h
    · omega
    · by_cases hz : q = 0
      · subst hz; omega
      · omega
  have hlt : u * 4294967296 + v < q * (d * 4294967296 + e) := by
    rcases h with h | h
    · have := Int.mul_le_mul_of_nonneg_right h (show 0 ≤ d * 4294967296 + e by omega)
      omega
    · have e1 := g.eq
      rw [Int.mul_add, ← Int.mul_assoc]
      generalize q * d = p at *
      omega
  have hup : (u * 4294967296 + v) / (d * 4294967296 + e) < q := Int.ediv_lt_of_lt_mul (by omega) hlt
  refine ⟨hq, by have := g.q1; omega, ⟨?_, by omega, by have := g.q1; omega, by omega, by omega⟩⟩
  have e1 := g.eq
  rw [Int.sub_mul]
  omega

theorem Guess.exact {u v d e q r : Int} (g : Guess u v d e q r) (k : Known u v d e) (h : q * e ≤ 4294967296 * r + v) :
    (u * 4294967296 + v) / (d * 4294967296 + e) = q := by
  have hd := k.d0
  have he := k.e0
  have hup := g.up
  have hle : q ≤ (u * 4294967296 + v) / (d * 4294967296 + e) := by
    refine Int.le_ediv_of_mul_le (by omega) ?_
    have e1 := g.eq
    rw [Int.mul_add, ← Int.mul_assoc]
    generalize q * d = p at *
    omega
  omega

theorem Guess.over {u v d e q r : Int} (g : Guess u v d e q r) (k : Known u v d e) (hq : q ≤ 4294967296) (h : 4294967296 ≤ r) :
    (u * 4294967296 + v) / (d * 4294967296 + e) = q := by
  refine g.exact k ?_
  have h1 := Int.mul_le_mul hq k.e1 k.e0 (by omega : (0:Int) ≤ 4294967296)
  have := k.v0
  omega

/-- The digit fits, and what is left is below the divisor. -/
theorem Known.fits {u v d e : Int} (k : Known u v d e) : 0 ≤ (u * 4294967296 + v) / (d * 4294967296 + e) ∧ (u * 4294967296 + v) / (d * 4294967296 + e) ≤ 4294967295 ∧
    0 ≤ u * 4294967296 + v - (u * 4294967296 + v) / (d * 4294967296 + e) * (d * 4294967296 + e) ∧ u * 4294967296 + v - (u * 4294967296 + v) / (d * 4294967296 + e) * (d * 4294967296 + e) < d * 4294967296 + e := by
  have hd := k.d0
  have he := k.e0
  have hu := k.u1
  have hu0 := k.u0
  have hv := k.v0
  have hv1 := k.v1
  have h1 : 0 ≤ (u * 4294967296 + v) / (d * 4294967296 + e) := Int.ediv_nonneg (by omega) (by omega)
  have h2 : (u * 4294967296 + v) / (d * 4294967296 + e) < 4294967296 := Int.ediv_lt_of_lt_mul (by omega) (by omega)
  have h3 := Int.ediv_mul_le (u * 4294967296 + v) (b := d * 4294967296 + e) (by omega)
  have h4 := Int.lt_ediv_add_one_mul_self (u * 4294967296 + v) (b := d * 4294967296 + e) (by omega)
  rw [Int.add_mul] at h4
  exact ⟨h1, by omega, by omega, by omega⟩

/-- Two digits, one behind the other, are the quotient. -/
theorem two_digits {u v x D q s : Int} (hD : 0 < D) (hs : s = u * 4294967296 + v - q * D) :
    (u * 18446744073709551616 + v * 4294967296 + x) / D = q * 4294967296 + (s * 4294967296 + x) / D := by
  have h : u * 18446744073709551616 + v * 4294967296 + x = (s * 4294967296 + x) + q * 4294967296 * D := by
    rw [Int.mul_right_comm]
    generalize q * D = p at *
    omega
  rw [h, Int.add_mul_ediv_right _ _ (by omega)]
  omega
end Go.Proofs.YtagmighcofllhaaDoor

/- The contract of the division of two words by one. -/
namespace Go.Proofs.YtagmighcofllhaaDoor
open Go.ChangeShapes Go.WideShapes Go.ChangeAt Go.RowKit
set_option linter.unusedVariables false

/-- Both sides are shifted until the divisor has all its bits. -/
theorem normal {hi lo y : Int} {n : Nat} (h0 : 1 ≤ hi) (h1 : hi < y) (hl : 0 ≤ lo ∧ lo < 18446744073709551616) (hL : Long y n) :
    ∃ Y U V, IntKind.u64.wrap (y * 2 ^ (64 - n)) = Y ∧ bits .or .u64 (IntKind.u64.wrap (hi * 2 ^ (64 - n))) (lo / 2 ^ (64 - (64 - n))) = U ∧ IntKind.u64.wrap (lo * 2 ^ (64 - n)) = V ∧
      9223372036854775808 ≤ Y ∧ Y < 18446744073709551616 ∧ 0 ≤ U ∧ U < Y ∧ 0 ≤ V ∧ V < 18446744073709551616 ∧ (U * 18446744073709551616 + V) / Y = (hi * 18446744073709551616 + lo) / y := by
  obtain ⟨n1, n2, l1, l2⟩ := hL
  have e : 64 - (64 - n) = n := by omega
  rw [e]
  have hST : (2 : Int) ^ n * 2 ^ (64 - n) = 18446744073709551616 := by
    rw [← Int.pow_add, show n + (64 - n) = 64 by omega]; rfl
  have hST1 : (2 : Int) ^ (n - 1) * 2 ^ (64 - n) = 9223372036854775808 := by
    rw [← Int.pow_add, show n - 1 + (64 - n) = 63 by omega]; rfl
  have hT : (1 : Int) ≤ 2 ^ (64 - n) := Int.pow_pos (by omega)
  have hS : (1 : Int) ≤ 2 ^ n := Int.pow_pos (by omega)
  have hor : ∀ b : Int, 0 ≤ b → b < 2 ^ (64 - n) → hi * 2 ^ (64 - n) < 18446744073709551616 → b < 18446744073709551616 → bits .or .u64 (hi * 2 ^ (64 - n)) b = hi * 2 ^ (64 - n) + b := by
    intro b b0 b1 b2 b3
    obtain ⟨B, rfl⟩ := Int.eq_ofNat_of_zero_le b0
    obtain ⟨H, rfl⟩ := Int.eq_ofNat_of_zero_le (show 0 ≤ hi by omega)
    have ec : (H : Int) * 2 ^ (64 - n) = ((2 ^ (64 - n) * H : Nat) : Int) := by rw [Nat.mul_comm]; simp
    have b1' : B < 2 ^ (64 - n) := by exact_mod_cast b1
    rw [ec] at b2 ⊢
    rw [bits_or_u64_nat _ _ (by omega) (by omega), ← Nat.two_pow_add_eq_or_of_lt b1' H]
    simp
  generalize hTe : (2 : Int) ^ (64 - n) = T at *
  generalize hSe : (2 : Int) ^ n = S at *
  generalize (2 : Int) ^ (n - 1) = S1 at *
  have y1 : y * T < S * T := Int.mul_lt_mul_of_pos_right l2 (by omega)
  have y2 : S1 * T ≤ y * T := Int.mul_le_mul_of_nonneg_right l1 (by omega)
  have q1 : 0 ≤ lo / S := Int.ediv_nonneg hl.1 (by omega)
  have q2 : lo / S < T := Int.ediv_lt_of_lt_mul (by omega) (by rw [Int.mul_comm T S]; omega)
  have d1 : lo = lo / S * S + lo % S := by have := Int.mul_ediv_add_emod lo S; rw [Int.mul_comm] at this; omega
  have m1 : 0 ≤ lo % S := Int.emod_nonneg _ (by omega)
  have m2 : lo % S < S := Int.emod_lt_of_pos _ (by omega)
  have a1 : (hi + 1) * T ≤ y * T := Int.mul_le_mul_of_nonneg_right (by omega) (by omega)
  have a2 : 0 ≤ hi * T := Int.mul_nonneg (by omega) (by omega)
  rw [Int.add_mul] at a1
  have v1 : lo * T = lo / S * 18446744073709551616 + lo % S * T := by
    have := congrArg (· * T) d1
    rw [Int.add_mul, Int.mul_assoc, hST] at this
    exact this
  have v2 : lo % S * T < S * T := Int.mul_lt_mul_of_pos_right m2 (by omega)
  have v3 : 0 ≤ lo % S * T := Int.mul_nonneg m1 (by omega)
  have e1 : IntKind.u64.wrap (y * T) = y * T := by rw [IntKind.wrap_u64]; omega
  have e2 : IntKind.u64.wrap (hi * T) = hi * T := by rw [IntKind.wrap_u64]; omega
  have e3 : IntKind.u64.wrap (lo * T) = lo % S * T := by rw [IntKind.wrap_u64]; omega
  have e4 := hor (lo / S) q1 q2 (by omega) (by omega)
  refine ⟨y * T, hi * T + lo / S, lo % S * T, e1, by rw [e2, e4], e3, by omega, by omega, by omega, by omega, v3, by omega, ?_⟩
  have e5 : (hi * T + lo / S) * 18446744073709551616 + lo % S * T = (hi * 18446744073709551616 + lo) * T := by
    rw [Int.add_mul (hi * 18446744073709551616), v1, Int.mul_right_comm]
    omega
  rw [e5]
  exact Int.mul_ediv_mul_of_pos_left _ _ (by omega)

/-- What the code reckons modulo 2^64 for what is left. -/
theorem left_wrap {u v p : Int} (h0 : 0 ≤ u * 4294967296 + v - p) (h1 : u * 4294967296 + v - p < 18446744073709551616) :
    IntKind.u64.wrap (IntKind.u64.wrap (IntKind.u64.wrap (u * 4294967296) + v) - IntKind.u64.wrap p) = u * 4294967296 + v - p := by
  simp only [IntKind.wrap_u64]
  omega

set_option maxHeartbeats 1000000 in
theorem div_walk (hi lo y : Int) (h0 : 1 ≤ hi) (h1 : hi < y) (hy : y < 18446744073709551616) (hl : 0 ≤ lo ∧ lo < 18446744073709551616) (w : World) :
    Calls Tryd.prog 84 #[.int .u64 hi, .int .u64 lo, .int .u64 y] w fun e w' => (∃ r, e = .returned (.tuple #[.int .u64 ((hi * 18446744073709551616 + lo) / y), .int .u64 r])) ∧ w' = w := by
  go_enter Tryd.func84, Tryd.ntmps84
  go_wp2_with fail
  refine (lead_walk y (by omega) hy _).mono ?_
  rintro e w' ⟨⟨n, rfl, hL⟩, rfl⟩
  have hn1 := hL.1
  have hn2 := hL.2.1
  obtain ⟨Y, U, V, eY, eU, eV, hY1, hY2, hU1, hU2, hV1, hV2, hQ⟩ := normal h0 h1 hl hL
  have HQ : Hid ((U * 18446744073709551616 + V) / Y = (hi * 18446744073709551616 + lo) / y) := hQ
  clear hL hQ
  obtain ⟨d, hd⟩ : ∃ d, Y / 4294967296 = d := ⟨_, rfl⟩
  obtain ⟨e, he⟩ : ∃ e, Y % 4294967296 = e := ⟨_, rfl⟩
  obtain ⟨v, hv⟩ : ∃ v, V / 4294967296 = v := ⟨_, rfl⟩
  obtain ⟨x, hx⟩ : ∃ x, V % 4294967296 = x := ⟨_, rfl⟩
  have he' := low_half Y (by omega) hY2
  have hx' := low_half V hV1 hV2
  rw [he] at he'
  rw [hx] at hx'
  have kn : Known U v d e := ⟨by omega, by omega, by omega, by omega, by omega, by omega, hU1, by omega⟩
  have EY : Hid (Y = d * 4294967296 + e) := by unfold Hid; omega
  have EV : Hid (V = v * 4294967296 + x) := by unfold Hid; omega
  have x0 : 0 ≤ x ∧ x ≤ 4294967295 := by omega
  have g0 := kn.first
  have s0 := kn.small
  have g1 := g0.q0
  have g2 := g0.q1
  have g3 := g0.r0
  have g4 : 0 ≤ U / d * d := Int.mul_nonneg g1 (by have := kn.d0; omega)
  have G0 : Hid (Guess U v d e (U / d) (U - U / d * d)) := g0
  have k1 := kn.d0
  have k2 := kn.d1
  have k3 := kn.e0
  have k4 := kn.e1
  have k5 := kn.v0
  have k6 := kn.v1
  have KN : Hid (Known U v d e) := kn
  clear g0 he hx kn
  obtain ⟨E, hE⟩ : ∃ E, (U * 4294967296 + v) / (d * 4294967296 + e) = E := ⟨_, rfl⟩
  have HE : Hid ((U * 4294967296 + v) / (d * 4294967296 + e) = E) := hE
  clear hE
  go_upto_block 0 with fail
  go_cut [15, 16] (fun s t wx => wx = w' ∧ s = .int .u64 E ∧ ∃ r, t = .int .u64 r)
  case first =>
    go_wp2_with fail
    go_loopg [15, 16] (U / d).toNat (fun g s t wx => wx = w' ∧ ∃ q r : Int, s = .int .u64 q ∧ t = .int .u64 r ∧ g = q.toNat ∧ Guess U v d e q r ∧ r < 4294967296)
    case atStart => exact ⟨rfl, (U / d), _, rfl, rfl, rfl, G0.out, s0⟩
    case round =>
      obtain ⟨rfl, q, r, rfl, rfl, rfl, gs, hr⟩ := hrel
      have q0 := gs.q0
      have q1 := gs.q1
      have r0 := gs.r0
      have GS : Hid (Guess U v d e q r) := gs
      clear gs
      by_cases c1 : 4294967296 ≤ q
      · obtain ⟨l1, l2, l3⟩ := GS.out.less KN.out (Or.inl c1)
        have G3 : Hid (Guess U v d e (q - 1) (r + d)) := l3
        clear l3
        by_cases c2 : 4294967296 ≤ r + d
        · go_wp2
          go_meet
          exact ⟨rfl, by rw [← G3.out.over KN.out l2 c2]; exact congrArg _ HE.out, _, rfl⟩
        · go_wp2
          go_roundg (q - 1).toNat
          case measure => omega
          case rel => exact ⟨rfl, q - 1, r + d, rfl, rfl, rfl, G3.out, by omega⟩
      · have qe := halves_bd (a := q) (b := e) (by omega) (by omega)
        by_cases c3 : 4294967296 * r + v < q * e
        · obtain ⟨l1, l2, l3⟩ := GS.out.less KN.out (Or.inr c3)
          have G3 : Hid (Guess U v d e (q - 1) (r + d)) := l3
          clear l3
          by_cases c2 : 4294967296 ≤ r + d
          · go_wp2
            go_meet
            exact ⟨rfl, by rw [← G3.out.over KN.out l2 c2]; exact congrArg _ HE.out, _, rfl⟩
          · go_wp2
            go_roundg (q - 1).toNat
            case measure => omega
            case rel => exact ⟨rfl, q - 1, r + d, rfl, rfl, rfl, G3.out, by omega⟩
        · go_wp2
          go_meet
          exact ⟨rfl, by rw [← GS.out.exact KN.out (by omega)]; exact congrArg _ HE.out, _, rfl⟩
  case rest =>
    obtain ⟨rfl, rfl, r1, rfl⟩ := hcut
    clear g1 g2 g3 g4 s0 G0
    obtain ⟨f1, f2, f3, f4⟩ := KN.out.fits
    rw [HE.out] at f1 f2 f3 f4
    rw [← EY.out] at f3 f4
    obtain ⟨L, hL⟩ : ∃ L, U * 4294967296 + v - E * Y = L := ⟨_, rfl⟩
    have hw := left_wrap f3 (by omega)
    rw [hL] at hw f3 f4
    have HL : Hid (U * 4294967296 + v - E * Y = L) := hL
    clear hL
    have km : Known L x d e := ⟨k1, k2, k3, k4, x0.1, x0.2, f3, by have := EY.out; omega⟩
    have KM : Hid (Known L x d e) := km
    have F0 : Hid (Guess L x d e (L / d) (L - L / d * d)) := km.first
    have f5 := km.small
    have g1 := km.first.q0
    have g2 := km.first.q1
    have g3 := km.first.r0
    have g4 : 0 ≤ L / d * d := Int.mul_nonneg g1 (by omega)
    clear km
    obtain ⟨F, hF⟩ : ∃ F, (L * 4294967296 + x) / (d * 4294967296 + e) = F := ⟨_, rfl⟩
    have HF : Hid ((L * 4294967296 + x) / (d * 4294967296 + e) = F) := hF
    clear hF
    go_upto_block 2 with fail
    go_cut [16, 18] (fun t s wx => wx = wc ∧ s = .int .u64 F ∧ ∃ r, t = .int .u64 r)
    case first =>
      go_wp2_with fail
      go_loopg [18, 16] (L / d).toNat (fun g s t wx => wx = wc ∧ ∃ q r : Int, s = .int .u64 q ∧ t = .int .u64 r ∧ g = q.toNat ∧ Guess L x d e q r ∧ r < 4294967296)
      case atStart => exact ⟨rfl, (L / d), _, rfl, rfl, rfl, F0.out, f5⟩
      case round =>
        obtain ⟨rfl, q, r, rfl, rfl, rfl, gs, hr⟩ := hrel
        have q0 := gs.q0
        have q1 := gs.q1
        have r0 := gs.r0
        have GS : Hid (Guess L x d e q r) := gs
        clear gs
        by_cases c1 : 4294967296 ≤ q
        · obtain ⟨l1, l2, l3⟩ := GS.out.less KM.out (Or.inl c1)
          have G3 : Hid (Guess L x d e (q - 1) (r + d)) := l3
          clear l3
          by_cases c2 : 4294967296 ≤ r + d
          · go_wp2
            go_meet
            exact ⟨rfl, by rw [← G3.out.over KM.out l2 c2]; exact congrArg _ HF.out, _, rfl⟩
          · go_wp2
            go_roundg (q - 1).toNat
            case measure => omega
            case rel => exact ⟨rfl, q - 1, r + d, rfl, rfl, rfl, G3.out, by omega⟩
        · have qe := halves_bd (a := q) (b := e) (by omega) (by omega)
          by_cases c3 : 4294967296 * r + x < q * e
          · obtain ⟨l1, l2, l3⟩ := GS.out.less KM.out (Or.inr c3)
            have G3 : Hid (Guess L x d e (q - 1) (r + d)) := l3
            clear l3
            by_cases c2 : 4294967296 ≤ r + d
            · go_wp2
              go_meet
              exact ⟨rfl, by rw [← G3.out.over KM.out l2 c2]; exact congrArg _ HF.out, _, rfl⟩
            · go_wp2
              go_roundg (q - 1).toNat
              case measure => omega
              case rel => exact ⟨rfl, q - 1, r + d, rfl, rfl, rfl, G3.out, by omega⟩
          · go_wp2
            go_meet
            exact ⟨rfl, by rw [← GS.out.exact KM.out (by omega)]; exact congrArg _ HF.out, _, rfl⟩
    case rest =>
      obtain ⟨rfl, rfl, r2, rfl⟩ := hcut
      clear g1 g2 g3 g4 f5 F0
      obtain ⟨p1, p2, _, _⟩ := KM.out.fits
      rw [HF.out] at p1 p2
      go_wp2
      go_ret2
      refine ⟨⟨_, ret_two ?_ rfl⟩, rfl⟩
      have hD : 0 < d * 4294967296 + e := by omega
      have hE := HE.out
      have hF := HF.out
      have hL := HL.out
      rw [EY.out] at hL
      have key := two_digits (u := U) (v := v) (x := x) hD hL.symm
      rw [hF] at key
      rw [← HQ.out, EV.out, EY.out, ← key, Int.add_assoc]
end Go.Proofs.YtagmighcofllhaaDoor

/- The contract of seq.MulDiv. -/
namespace Go.Proofs.YtagmighcofllhaaDoor
open Go.ChangeShapes Go.WideShapes Go.ChangeAt Go.RowKit
set_option linter.unusedVariables false

theorem div0_walk (lo y : Int) (h1 : 1 ≤ y) (hy : y < 18446744073709551616) (hl : 0 ≤ lo ∧ lo < 18446744073709551616) (w : World) :
    Calls Tryd.prog 84 #[.int .u64 0, .int .u64 lo, .int .u64 y] w fun e w' => (∃ r, e = .returned (.tuple #[.int .u64 (lo / y), .int .u64 r])) ∧ ∃ n, w' = w.drewN n := by
  have hq0 : 0 ≤ lo / y := Int.ediv_nonneg hl.1 (by omega)
  have hq1 : lo / y ≤ lo := Int.ediv_le_self _ hl.1
  go_enter Tryd.func84, Tryd.ntmps84
  go_wp2
  go_quiet (fail)
  go_wp2
  go_ret2
  exact ⟨⟨_, rfl⟩, _, rfl⟩

set_option maxHeartbeats 400000 in
theorem muldiv_walk (a b c : Int) (ha : -9223372036854775808 ≤ a ∧ a ≤ 9223372036854775807) (hb : -9223372036854775808 ≤ b ∧ b ≤ 9223372036854775807) (hc : -9223372036854775808 ≤ c ∧ c ≤ 9223372036854775807) (w : World) :
    Calls Tryd.prog 74 #[.int .i64 a, .int .i64 b, .int .i64 c] w fun e w' => e = .returned (.tuple #[.int .i64 (mulDivI a b c), .int .i64 (mulDivE a b c)]) ∧ ∃ n, w' = w.drewN n := by
  by_cases c1 : a < 0
  · go_enter Tryd.func74, Tryd.ntmps74
    go_wp2
    go_ret2
    refine ⟨ret_two ?_ ?_, 0, rfl⟩
    · unfold mulDivI; rw [if_pos (by omega)]
    · unfold mulDivE; rw [if_pos (by omega)]
  by_cases c2 : b < 0
  · go_enter Tryd.func74, Tryd.ntmps74
    go_wp2
    go_ret2
    refine ⟨ret_two ?_ ?_, 0, rfl⟩
    · unfold mulDivI; rw [if_pos (by omega)]
    · unfold mulDivE; rw [if_pos (by omega)]
  by_cases c3 : c ≤ 0
  · go_enter Tryd.func74, Tryd.ntmps74
    go_wp2
    go_ret2
    refine ⟨ret_two ?_ ?_, 0, rfl⟩
    · unfold mulDivI; rw [if_pos (by omega)]
    · unfold mulDivE; rw [if_pos (by omega)]
  have hp : 0 ≤ a * b := Int.mul_nonneg (by omega) (by omega)
  have eI : mulDivI a b c = if 9223372036854775807 < a * b / c then 9223372036854775807 else a * b / c := by unfold mulDivI; rw [if_neg (by omega)]
  have eE : mulDivE a b c = 0 := by unfold mulDivE; rw [if_neg (by omega)]
  have HI : Hid (mulDivI a b c = if 9223372036854775807 < a * b / c then 9223372036854775807 else a * b / c) := eI
  have HE : Hid (mulDivE a b c = 0) := eE
  clear eI eE
  obtain ⟨hi, hhi⟩ : ∃ hi, a * b / 18446744073709551616 = hi := ⟨_, rfl⟩
  obtain ⟨lo, hlo⟩ : ∃ lo, a * b % 18446744073709551616 = lo := ⟨_, rfl⟩
  have hs : a * b = hi * 18446744073709551616 + lo := by omega
  have hl : 0 ≤ lo ∧ lo < 18446744073709551616 := by omega
  have h0 : 0 ≤ hi := by omega
  have HS : Hid (a * b = hi * 18446744073709551616 + lo) := hs
  have hm : ∀ w, Calls Tryd.prog 83 #[.int .u64 a, .int .u64 b] w fun e w' => e = .returned (.tuple #[.int .u64 hi, .int .u64 lo]) ∧ w' = w := by
    intro w
    have := mul_walk a b (by omega) (by omega) w
    rw [hhi, hlo] at this
    exact this
  clear hhi hlo hs hp
  by_cases c4 : c ≤ hi
  · go_enter Tryd.func74, Tryd.ntmps74
    go_wp2_with (go_at_call 83; refine (hm _).mono ?_; rintro e w' ⟨rfl, rfl⟩)
    go_ret2
    refine ⟨ret_two ?_ HE.out.symm, 0, rfl⟩
    rw [HI.out, if_pos]
    have : 9223372036854775808 ≤ a * b / c := by
      refine Int.le_ediv_of_mul_le (by omega) ?_
      rw [HS.out]; omega
    omega
  · by_cases c5 : hi = 0
    · subst c5
      have hq : Hid (a * b / c = lo / c) := by have := HS.out; unfold Hid; rw [this]; congr 1; omega
      have q0 : 0 ≤ lo / c := Int.ediv_nonneg hl.1 (by omega)
      go_enter Tryd.func74, Tryd.ntmps74
      go_wp2_with (first | (go_at_call 83; refine (hm _).mono ?_; rintro e w' ⟨rfl, rfl⟩) | (go_at_call 84; refine (div0_walk lo c (by omega) (by omega) hl _).mono ?_; rintro e w' ⟨⟨r, rfl⟩, nn, rfl⟩))
      all_goals go_ret2
      all_goals (refine ⟨ret_two ?_ HE.out.symm, nn, rfl⟩; rw [HI.out, hq.out]; split <;> omega)
    · obtain ⟨Q, hQ⟩ : ∃ Q, (hi * 18446744073709551616 + lo) / c = Q := ⟨_, rfl⟩
      have hq : Hid (a * b / c = Q) := by have := HS.out; unfold Hid; rw [this, hQ]
      have q0 : 0 ≤ Q := by rw [← hQ]; exact Int.ediv_nonneg (by omega) (by omega)
      have hv : ∀ w, Calls Tryd.prog 84 #[.int .u64 hi, .int .u64 lo, .int .u64 c] w fun e w' => (∃ r, e = .returned (.tuple #[.int .u64 Q, .int .u64 r])) ∧ w' = w := by
        intro w
        have := div_walk hi lo c (by omega) (by omega) (by omega) hl w
        rw [hQ] at this
        exact this
      clear hQ
      go_enter Tryd.func74, Tryd.ntmps74
      go_wp2_with (first | (go_at_call 83; refine (hm _).mono ?_; rintro e w' ⟨rfl, rfl⟩) | (go_at_call 84; refine (hv _).mono ?_; rintro e w' ⟨⟨r, rfl⟩, rfl⟩))
      all_goals go_ret2
      all_goals (refine ⟨ret_two ?_ HE.out.symm, 0, rfl⟩; rw [HI.out, hq.out]; split <;> omega)
end Go.Proofs.YtagmighcofllhaaDoor

/- A product made bit by bit and divided as it grows: the plain arithmetic, with no Go in sight. -/
namespace Go.Proofs.YtagmighcofllhaaDoor

/-- q and r are the quotient and the rest of N by c. -/
structure Part (N c q r : Int) : Prop where
  eq : q * c + r = N
  r0 : 0 ≤ r
  r1 : r < c
  q0 : 0 ≤ q

theorem Part.twice {N c q r : Int} (p : Part N c q r) (h : 2 * r < c) : Part (2 * N) c (2 * q) (2 * r) := by
  obtain ⟨a, b, d, e⟩ := p
  refine ⟨?_, by omega, by omega, by omega⟩
  rw [Int.mul_assoc]
  generalize q * c = k at *
  omega

theorem Part.twice' {N c q r : Int} (p : Part N c q r) (h : c ≤ 2 * r) : Part (2 * N) c (2 * q + 1) (2 * r - c) := by
  obtain ⟨a, b, d, e⟩ := p
  refine ⟨?_, by omega, by omega, by omega⟩
  rw [Int.add_mul, Int.mul_assoc]
  generalize q * c = k at *
  omega

theorem Part.plus {N M c q r u s : Int} (p : Part N c q r) (m : Part M c u s) (h : r + s < c) : Part (N + M) c (q + u) (r + s) := by
  obtain ⟨a, b, d, e⟩ := p
  obtain ⟨a', b', d', e'⟩ := m
  refine ⟨?_, by omega, by omega, by omega⟩
  rw [Int.add_mul]
  generalize q * c = k at *
  omega

theorem Part.plus' {N M c q r u s : Int} (p : Part N c q r) (m : Part M c u s) (h : c ≤ r + s) : Part (N + M) c (q + u + 1) (r + s - c) := by
  obtain ⟨a, b, d, e⟩ := p
  obtain ⟨a', b', d', e'⟩ := m
  refine ⟨?_, by omega, by omega, by omega⟩
  rw [Int.add_mul, Int.add_mul]
  generalize q * c = k at *
  omega

theorem Part.of_div (N c : Int) (h0 : 0 ≤ N) (hc : 1 ≤ c) : Part N c (N / c) (N % c) :=
  ⟨by have := Int.mul_ediv_add_emod N c; rw [Int.mul_comm] at this; exact this, Int.emod_nonneg _ (by omega), Int.emod_lt_of_pos _ (by omega), Int.ediv_nonneg h0 (by omega)⟩

theorem Part.quo {N c q r : Int} (p : Part N c q r) : N / c = q := by
  obtain ⟨a, b, d, e⟩ := p
  have h1 : q ≤ N / c := Int.le_ediv_of_mul_le (by omega) (by omega)
  have h2 : N / c < q + 1 := Int.ediv_lt_of_lt_mul (by omega) (by rw [Int.add_mul]; omega)
  omega

/-- The quotient is too great already. -/
theorem Part.over {x a b c q r : Int} (p : Part (x * b) c q r) (hq : 9223372036854775807 < q) (hx : x ≤ a) (ha : 0 ≤ a) (hb : 0 ≤ b) (hc : 1 ≤ c) : mulDivI a b c = 9223372036854775807 := by
  unfold mulDivI
  rw [if_neg (by omega), if_pos]
  have h1 : x * b ≤ a * b := Int.mul_le_mul_of_nonneg_right hx hb
  have h2 := Int.ediv_le_ediv (c := c) (by omega) h1
  rw [p.quo] at h2
  omega

theorem Part.whole {a b c q r : Int} (p : Part (a * b) c q r) (hq : q ≤ 9223372036854775807) (ha : 0 ≤ a) (hb : 0 ≤ b) (hc : 1 ≤ c) : mulDivI a b c = q := by
  unfold mulDivI
  rw [if_neg (by omega), p.quo, if_neg (by omega)]

theorem too_much {a b c Q : Int} (h : Q * c ≤ a * b) (hQ : 9223372036854775807 < Q) (ha : 0 ≤ a) (hb : 0 ≤ b) (hc : 1 ≤ c) : mulDivI a b c = 9223372036854775807 := by
  unfold mulDivI
  rw [if_neg (by omega), if_pos]
  have h2 : Q ≤ a * b / c := Int.le_ediv_of_mul_le (by omega) h
  omega

/-- What was read of a so far is too much already. -/
theorem Part.much {N x a b c q r : Int} (p : Part N c q r) (hN : N ≤ x * b) (hx : x ≤ a) (hQ : 9223372036854775807 < q) (ha : 0 ≤ a) (hb : 0 ≤ b) (hc : 1 ≤ c) : mulDivI a b c = 9223372036854775807 := by
  have h1 : x * b ≤ a * b := Int.mul_le_mul_of_nonneg_right hx hb
  have h2 := p.eq
  have h3 := p.r0
  exact too_much (Q := q) (by omega) hQ ha hb hc

theorem Part.twice_le {x b c q r : Int} (_p : Part (x / 2 * b) c q r) (hb : 0 ≤ b) : 2 * (x / 2 * b) ≤ x * b := by
  rw [← Int.mul_assoc]
  exact Int.mul_le_mul_of_nonneg_right (by omega) hb

theorem even_eq {x b : Int} (h : x % 2 = 0) : 2 * (x / 2 * b) = x * b := by
  rw [← Int.mul_assoc]; congr 1; omega
theorem odd_eq {x b : Int} (h : x % 2 = 1) : 2 * (x / 2 * b) + b = x * b := by
  have e : x = 2 * (x / 2) + 1 := by omega
  have := congrArg (· * b) e
  simp only [Int.add_mul, Int.one_mul, Int.mul_assoc] at this
  omega

theorem no_err {a b c : Int} (ha : 0 ≤ a) (hb : 0 ≤ b) (hc : 1 ≤ c) : mulDivE a b c = 0 := by
  unfold mulDivE
  rw [if_neg (by omega)]

theorem halves (a : Int) (m : Nat) (ha : 0 ≤ a) : a / 2 ^ (m + 1) = a / 2 ^ m / 2 ∧ 0 ≤ a / 2 ^ m ∧ a / 2 ^ m ≤ a := by
  have hp : (0 : Int) < 2 ^ m := Int.pow_pos (by omega)
  refine ⟨?_, Int.ediv_nonneg ha (by omega), Int.ediv_le_self _ ha⟩
  rw [Int.ediv_ediv, if_neg (by omega), ← Int.pow_succ, Int.sub_zero]
end Go.Proofs.YtagmighcofllhaaDoor

/- The contract of the document's own product by a number. -/
namespace Go.Proofs.YtagmighcofllhaaDoor
open Go.ChangeShapes Go.WideShapes Go.ChangeAt Go.RowKit
set_option linter.unusedVariables false

theorem low_bit (x : Int) (h0 : 0 ≤ x) (h1 : x ≤ 9223372036854775807) : bits .and .i64 x 1 = x % 2 := by
  obtain ⟨n, rfl⟩ := Int.eq_ofNat_of_zero_le h0
  have e1 : (BitVec.ofInt 64 (n : Int)).toNat = n := by
    rw [BitVec.ofInt_natCast, BitVec.toNat_ofNat]; exact Nat.mod_eq_of_lt (by omega)
  have e2 : (BitVec.ofInt 64 (1 : Int)).toNat = 1 := by decide
  show IntKind.i64.wrap ((BitVec.ofInt 64 (n : Int) &&& BitVec.ofInt 64 (1 : Int)).toNat : Int) = _
  rw [BitVec.toNat_and, e1, e2, Nat.and_one_is_mod]
  simp [IntKind.wrap, IntKind.bits, IntKind.signed]
  omega

theorem rmuldiv_bad (a b c : Int) (h : a < 0 ∨ b < 0 ∨ c ≤ 0) (w : World) :
    Calls Tryd.prog 65 #[.int .i64 a, .int .i64 b, .int .i64 c] w fun e w' => e = .returned (.tuple #[.int .i64 (mulDivI a b c), .int .i64 (mulDivE a b c)]) ∧ ∃ n, w' = w.drewN n := by
  have HI : Hid (mulDivI a b c = 0) := by unfold Hid mulDivI; rw [if_pos h]
  have HE : Hid (mulDivE a b c = 2) := by unfold Hid mulDivE; rw [if_pos h]
  by_cases c1 : a < 0
  · clear h
    go_enter Tryd.func65, Tryd.ntmps65
    go_wp2
    go_ret2
    exact ⟨ret_two HI.out.symm HE.out.symm, 0, rfl⟩
  by_cases c2 : b < 0
  · clear h
    go_enter Tryd.func65, Tryd.ntmps65
    go_wp2
    go_ret2
    exact ⟨ret_two HI.out.symm HE.out.symm, 0, rfl⟩
  · have c3 : c ≤ 0 := by omega
    clear h
    go_enter Tryd.func65, Tryd.ntmps65
    go_wp2
    go_ret2
    exact ⟨ret_two HI.out.symm HE.out.symm, 0, rfl⟩

set_option maxHeartbeats 1000000 in
theorem rmuldiv_good (a b c : Int) (ha : 0 ≤ a ∧ a ≤ 9223372036854775807) (hb : 0 ≤ b ∧ b ≤ 9223372036854775807) (hc : 1 ≤ c ∧ c ≤ 9223372036854775807) (w : World) :
    Calls Tryd.prog 65 #[.int .i64 a, .int .i64 b, .int .i64 c] w fun e w' => e = .returned (.tuple #[.int .i64 (mulDivI a b c), .int .i64 (mulDivE a b c)]) ∧ ∃ n, w' = w.drewN n := by
  have HE : Hid (mulDivE a b c = 0) := no_err ha.1 hb.1 hc.1
  have pb := Part.of_div b c hb.1 hc.1
  have bq0 := pb.q0
  have br0 := pb.r0
  have br1 := pb.r1
  have bq1 : b / c ≤ b := Int.ediv_le_self _ hb.1
  have PB : Hid (Part b c (b / c) (b % c)) := pb
  clear pb
  go_enter Tryd.func65, Tryd.ntmps65
  go_wp2
  go_quiet (fail)
  go_wp2
  go_loop [8, 9, 10, 13] (fun s t o i => ∃ (k : Nat) (q r : Int), k ≤ 63 ∧ i = .int .i64 ((k : Int) - 1) ∧ s = .int .u64 q ∧ t = .int .u64 r ∧ o = .bool false ∧ q ≤ 9223372036854775807 ∧ Part (a / 2 ^ k * b) c q r) (fun _ _ _ i => (intOf i + 1).toNat)
  case atStart =>
    have e : a / 2 ^ 63 = 0 := Int.ediv_eq_zero_of_lt ha.1 (by omega)
    exact ⟨63, 0, 0, by omega, rfl, rfl, rfl, rfl, by omega, by rw [e]; exact ⟨by omega, by omega, by omega, by omega⟩⟩
  case round =>
    obtain ⟨k, q, r, hk, rfl, rfl, rfl, rfl, hq, pr⟩ := hrel
    have q0 := pr.q0
    have r0 := pr.r0
    have r1 := pr.r1
    have PR : Hid (Part (a / 2 ^ k * b) c q r) := pr
    clear pr
    cases k with
    | zero =>
      have HI : Hid (mulDivI a b c = q) := by
        have := PR.out
        rw [Int.pow_zero, Int.ediv_one] at this
        exact this.whole hq ha.1 hb.1 hc.1
      go_wp2
      go_ret2
      exact ⟨ret_two HI.out.symm HE.out.symm, nq, rfl⟩
    | succ m =>
      obtain ⟨e1, hX0, hX1⟩ := halves a m ha.1
      obtain ⟨X, hX⟩ : ∃ X, a / 2 ^ m = X := ⟨_, rfl⟩
      rw [hX] at e1 hX0 hX1
      have PX : Hid (Part (X / 2 * b) c q r) := by have := PR.out; rw [e1] at this; exact this
      clear e1 PR
      rw [show (((m + 1 : Nat) : Int) - 1) = (m : Int) from by omega]
      by_cases cO : 4611686018427387904 ≤ q
      · have HI : Hid (mulDivI a b c = 9223372036854775807) := by
          have h5 := PX.out.twice_le hb.1
          by_cases c6 : 2 * r < c
          · exact (PX.out.twice c6).much h5 hX1 (by omega) ha.1 hb.1 hc.1
          · exact (PX.out.twice' (by omega)).much h5 hX1 (by omega) ha.1 hb.1 hc.1
        go_wp2
        all_goals (go_ret2; exact ⟨ret_two HI.out.symm HE.out.symm, nq, rfl⟩)
      · by_cases cR : c ≤ 2 * r
        · obtain ⟨q2, hq2⟩ : ∃ q2, 2 * q + 1 = q2 := ⟨_, rfl⟩
          obtain ⟨r2, hr2⟩ : ∃ r2, 2 * r - c = r2 := ⟨_, rfl⟩
          have p2 : Part (2 * (X / 2 * b)) c q2 r2 := by rw [← hq2, ← hr2]; exact PX.out.twice' cR
          have P2 : Hid (Part (2 * (X / 2 * b)) c q2 r2) := p2
          have u0 := p2.r0
          have u1 := p2.r1
          have u2 := p2.q0
          have u3 : q2 ≤ 9223372036854775807 := by omega
          clear p2
          by_cases cB : X % 2 = 1
          · have HX1 : Hid (X % 2 = 1) := cB
            have hb1 : (bits .and .i64 X 1 == 1) = true := by rw [low_bit X hX0 (by omega), cB]; rfl
            clear cB
            by_cases c4 : 9223372036854775807 - b / c < q2
            · have HI : Hid (mulDivI a b c = 9223372036854775807) := by
                have h5 := odd_eq (b := b) HX1.out
                by_cases c6 : r2 + b % c < c
                · exact (P2.out.plus PB.out c6).much (by omega) hX1 (by omega) ha.1 hb.1 hc.1
                · exact (P2.out.plus' PB.out (by omega)).much (by omega) hX1 (by omega) ha.1 hb.1 hc.1
              go_wp2
              all_goals (go_ret2; exact ⟨ret_two HI.out.symm HE.out.symm, nq, rfl⟩)
            · by_cases c5 : c ≤ r2 + b % c
              · have P3 : Hid (Part (X * b) c (q2 + b / c + 1) (r2 + b % c - c)) := by
                  unfold Hid; rw [← odd_eq HX1.out]; exact P2.out.plus' PB.out c5
                by_cases c6 : 9223372036854775807 < q2 + b / c + 1
                · have HI : Hid (mulDivI a b c = 9223372036854775807) := P3.out.much (Int.le_refl _) hX1 c6 ha.1 hb.1 hc.1
                  go_wp2
                  go_ret2
                  exact ⟨ret_two HI.out.symm HE.out.symm, nq, rfl⟩
                · go_wp2
                  go_round
                  case rel => exact ⟨m, _, _, by omega, rfl, rfl, rfl, rfl, by omega, by rw [hX]; exact P3.out⟩
                  case measure => simp [intOf]
              · have P3 : Hid (Part (X * b) c (q2 + b / c) (r2 + b % c)) := by
                  unfold Hid; rw [← odd_eq HX1.out]; exact P2.out.plus PB.out (by omega)
                go_wp2
                go_round
                case rel => exact ⟨m, _, _, by omega, rfl, rfl, rfl, rfl, by omega, by rw [hX]; exact P3.out⟩
                case measure => simp [intOf]
          · have HX0 : Hid (X % 2 = 0) := by unfold Hid; omega
            have hb0 : (bits .and .i64 X 1 == 1) = false := by rw [low_bit X hX0 (by omega), HX0.out]; rfl
            clear cB
            go_wp2
            go_round
            case rel => exact ⟨m, _, _, by omega, rfl, rfl, rfl, rfl, by omega, by rw [hX, ← even_eq HX0.out]; exact P2.out⟩
            case measure => simp [intOf]
        · obtain ⟨q2, hq2⟩ : ∃ q2, 2 * q = q2 := ⟨_, rfl⟩
          obtain ⟨r2, hr2⟩ : ∃ r2, 2 * r = r2 := ⟨_, rfl⟩
          have p2 : Part (2 * (X / 2 * b)) c q2 r2 := by rw [← hq2, ← hr2]; exact PX.out.twice (by omega)
          have P2 : Hid (Part (2 * (X / 2 * b)) c q2 r2) := p2
          have u0 := p2.r0
          have u1 := p2.r1
          have u2 := p2.q0
          have u3 : q2 ≤ 9223372036854775807 := by omega
          clear p2
          by_cases cB : X % 2 = 1
          · have HX1 : Hid (X % 2 = 1) := cB
            have hb1 : (bits .and .i64 X 1 == 1) = true := by rw [low_bit X hX0 (by omega), cB]; rfl
            clear cB
            by_cases c4 : 9223372036854775807 - b / c < q2
            · have HI : Hid (mulDivI a b c = 9223372036854775807) := by
                have h5 := odd_eq (b := b) HX1.out
                by_cases c6 : r2 + b % c < c
                · exact (P2.out.plus PB.out c6).much (by omega) hX1 (by omega) ha.1 hb.1 hc.1
                · exact (P2.out.plus' PB.out (by omega)).much (by omega) hX1 (by omega) ha.1 hb.1 hc.1
              go_wp2
              all_goals (go_ret2; exact ⟨ret_two HI.out.symm HE.out.symm, nq, rfl⟩)
            · by_cases c5 : c ≤ r2 + b % c
              · have P3 : Hid (Part (X * b) c (q2 + b / c + 1) (r2 + b % c - c)) := by
                  unfold Hid; rw [← odd_eq HX1.out]; exact P2.out.plus' PB.out c5
                by_cases c6 : 9223372036854775807 < q2 + b / c + 1
                · have HI : Hid (mulDivI a b c = 9223372036854775807) := P3.out.much (Int.le_refl _) hX1 c6 ha.1 hb.1 hc.1
                  go_wp2
                  go_ret2
                  exact ⟨ret_two HI.out.symm HE.out.symm, nq, rfl⟩
                · go_wp2
                  go_round
                  case rel => exact ⟨m, _, _, by omega, rfl, rfl, rfl, rfl, by omega, by rw [hX]; exact P3.out⟩
                  case measure => simp [intOf]
              · have P3 : Hid (Part (X * b) c (q2 + b / c) (r2 + b % c)) := by
                  unfold Hid; rw [← odd_eq HX1.out]; exact P2.out.plus PB.out (by omega)
                go_wp2
                go_round
                case rel => exact ⟨m, _, _, by omega, rfl, rfl, rfl, rfl, by omega, by rw [hX]; exact P3.out⟩
                case measure => simp [intOf]
          · have HX0 : Hid (X % 2 = 0) := by unfold Hid; omega
            have hb0 : (bits .and .i64 X 1 == 1) = false := by rw [low_bit X hX0 (by omega), HX0.out]; rfl
            clear cB
            go_wp2
            go_round
            case rel => exact ⟨m, _, _, by omega, rfl, rfl, rfl, rfl, by omega, by rw [hX, ← even_eq HX0.out]; exact P2.out⟩
            case measure => simp [intOf]

theorem rmuldiv_walk (a b c : Int) (ha : -9223372036854775808 ≤ a ∧ a ≤ 9223372036854775807) (hb : -9223372036854775808 ≤ b ∧ b ≤ 9223372036854775807) (hc : -9223372036854775808 ≤ c ∧ c ≤ 9223372036854775807) (w : World) :
    Calls Tryd.prog 65 #[.int .i64 a, .int .i64 b, .int .i64 c] w fun e w' => e = .returned (.tuple #[.int .i64 (mulDivI a b c), .int .i64 (mulDivE a b c)]) ∧ ∃ n, w' = w.drewN n := by
  by_cases h : a < 0 ∨ b < 0 ∨ c ≤ 0
  · exact rmuldiv_bad a b c h w
  · exact rmuldiv_good a b c (by omega) (by omega) (by omega) w
end Go.Proofs.YtagmighcofllhaaDoor

/- The contracts of the document's own answers to package seq. -/
namespace Go.Proofs.YtagmighcofllhaaDoor
open Go.ChangeShapes Go.WideShapes Go.ChangeAt Go.RowKit
set_option linter.unusedVariables false

theorem rclamp_walk (x low high : Int) (w : World) :
    Calls Tryd.prog 41 #[.int .i64 x, .int .i64 low, .int .i64 high] w fun e w' => e = .returned (.int .i64 (clampI x low high)) ∧ w' = w := by
  go_enter Tryd.func41, Tryd.ntmps41
  go_wp2
  all_goals go_ret
  all_goals (refine ⟨ret_int ?_, rfl⟩; unfold clampI; first | omega | (split <;> (try split) <;> (try split) <;> omega))

end Go.Proofs.YtagmighcofllhaaDoor
