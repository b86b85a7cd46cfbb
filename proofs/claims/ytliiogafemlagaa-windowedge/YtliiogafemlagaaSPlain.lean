/- What sums, differences and cube roots of whole numbers are, with no Go in sight. -/
import Derived.RowKit
namespace Go.Proofs.Ytliiogafemlagaa

def diffI (a b : Int) : Int := (b - a + 2147483648) % 4294967296 - 2147483648
def lessB (a b : Int) : Bool := decide (0 < diffI a b)
def withinB (x low n : Int) : Bool := decide ((x - low) % 4294967296 < n)
def addI (a n : Int) : Int := (a + n) % 4294967296
def modI (n : Int) : Int := n % 4294967296
def sumI (a b : Int) : Int := if 9223372036854775807 < a + b then 9223372036854775807 else if a + b < -9223372036854775808 then -9223372036854775808 else a + b
def unwrapI (base s : Int) : Int := sumI base (diffI (modI base) s)
def clampI (x low high : Int) : Int := if x < low then low else if high < low then low else if high < x then high else x

theorem diff_bd (a b : Int) : -2147483648 ≤ diffI a b ∧ diffI a b ≤ 2147483647 := by unfold diffI; omega
theorem mod_bd (n : Int) : 0 ≤ modI n ∧ modI n ≤ 4294967295 := by unfold modI; omega
theorem add_bd (a n : Int) : 0 ≤ addI a n ∧ addI a n ≤ 4294967295 := by unfold addI; omega
theorem sum_bd (a b : Int) : -9223372036854775808 ≤ sumI a b ∧ sumI a b ≤ 9223372036854775807 := by unfold sumI; split <;> (try split) <;> omega

/-- Of two numbers up to 2^32 the difference, wrapped. -/
theorem diff_wrap (a b : Int) : Go.RowKit.wrap64 (Go.RowKit.wrap32 ((b - a) % 4294967296)) = diffI a b := by
  unfold Go.RowKit.wrap64 Go.RowKit.wrap32 diffI; omega
theorem add_wrap (a n : Int) : (a + n % 4294967296) % 4294967296 = addI a n := by unfold addI; omega

/-- r is the cube root of n, cut downwards (and at 2097151). -/
structure Root (n r : Int) : Prop where
  lo : 0 ≤ r
  hi : r ≤ 2097151
  le : r = 0 ∨ r * r * r ≤ n
  lt : r = 2097151 ∨ n < (r + 1) * (r + 1) * (r + 1)

theorem cube_mono {a b : Int} (h0 : 0 ≤ a) (h : a ≤ b) : a * a * a ≤ b * b * b := by
  have h1 : a * a ≤ b * b := Int.mul_le_mul h h h0 (by omega)
  exact Int.mul_le_mul h1 h h0 (Int.mul_nonneg (by omega) (by omega))

theorem cube_pos {a : Int} (h : 1 ≤ a) : 1 ≤ a * a * a := by
  have := cube_mono (a := 1) (b := a) (by omega) h
  omega

theorem cube_hi {a : Int} (h0 : 0 ≤ a) (h : a ≤ 2097151) : 0 ≤ a * a ∧ a * a ≤ 4398042316801 ∧ 0 ≤ a * a * a ∧ a * a * a ≤ 9223358842721533951 := by
  have h1 : a * a ≤ 2097151 * 2097151 := Int.mul_le_mul h h h0 (by omega)
  have h2 : 0 ≤ a * a := Int.mul_nonneg h0 h0
  have h3 := cube_mono h0 h
  have h4 : 0 ≤ a * a * a := Int.mul_nonneg h2 h0
  omega

theorem Root.unique {n r s : Int} (hr : Root n r) (hs : Root n s) : r = s := by
  have key : ∀ {r s : Int}, Root n r → Root n s → ¬ r < s := by
    intro r s hr hs hlt
    have h1 : n < (r + 1) * (r + 1) * (r + 1) := by
      rcases hr.lt with h | h
      · have := hs.hi; omega
      · exact h
    have h2 : s * s * s ≤ n := by
      rcases hs.le with h | h
      · have := hr.lo; omega
      · exact h
    have h3 := cube_mono (a := r + 1) (b := s) (by have := hr.lo; omega) (by omega)
    omega
  have a := key hr hs
  have b := key hs hr
  omega

def cbrtGo (n : Int) : Nat → Int
  | 0 => 0
  | k + 1 => if ((k : Int) + 1) * ((k : Int) + 1) * ((k : Int) + 1) ≤ n then (k : Int) + 1 else cbrtGo n k

theorem cbrtGo_is (n : Int) (k : Nat) : 0 ≤ cbrtGo n k ∧ cbrtGo n k ≤ k ∧ (cbrtGo n k = 0 ∨ cbrtGo n k * cbrtGo n k * cbrtGo n k ≤ n) ∧ (cbrtGo n k = k ∨ n < (cbrtGo n k + 1) * (cbrtGo n k + 1) * (cbrtGo n k + 1)) := by
  induction k with
  | zero => simp [cbrtGo]
  | succ k ih =>
    unfold cbrtGo
    split
    · rename_i h
      exact ⟨by omega, by omega, Or.inr h, Or.inl (by omega)⟩
    · rename_i h
      obtain ⟨i1, i2, i3, i4⟩ := ih
      refine ⟨i1, by omega, i3, Or.inr ?_⟩
      rcases i4 with i4 | i4
      · rw [i4]; omega
      · exact i4

def cbrtI (n : Int) : Int := cbrtGo n 2097151
theorem cbrt_root (n : Int) : Root n (cbrtI n) := by
  obtain ⟨a, b, c, d⟩ := cbrtGo_is n 2097151
  exact ⟨a, b, c, d⟩
theorem cbrt_eq {n r : Int} (h : Root n r) : cbrtI n = r := (cbrt_root n).unique h
theorem cbrt_26 : cbrtI 26 = 2 := cbrt_eq ⟨by omega, by omega, Or.inr (by omega), Or.inr (by omega)⟩

/-- The product by a number, downwards, at most the greatest. -/
def mulDivI (a b c : Int) : Int := if a < 0 ∨ b < 0 ∨ c ≤ 0 then 0 else if 9223372036854775807 < a * b / c then 9223372036854775807 else a * b / c
def mulDivE (a b c : Int) : Int := if a < 0 ∨ b < 0 ∨ c ≤ 0 then 2 else 0
end Go.Proofs.Ytliiogafemlagaa
