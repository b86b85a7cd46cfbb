/- A product made bit by bit and divided as it grows: the plain arithmetic, with no Go in sight. -/
import Derived.Test.YtifgdpokmgibgaaSPlain
namespace Go.Proofs.Ytifgdpokmgibgaa

/-- q and r are the quotient and the rest of N by c. -/
structure Part (N c q r : Int) : Prop where
  eq : q * c + r = N
  r0 : 0 ≤ r
  r1 : r < c
  q0 : 0 ≤ q

theorem Part.twice {N c q r : Int} (p : Part N c q r) (h : 2 * r < c) : Part (2 * N) c (2 * q) (2 * r) := by
  obtain ⟨a, b, d, e⟩ := p
  refine ⟨?_, by omega, by omega, by omega⟩
  rw [Int.mul_assoc]
  generalize q * c = k at *
  omega

theorem Part.twice' {N c q r : Int} (p : Part N c q r) (h : c ≤ 2 * r) : Part (2 * N) c (2 * q + 1) (2 * r - c) := by
  obtain ⟨a, b, d, e⟩ := p
  refine ⟨?_, by omega, by omega, by omega⟩
  rw [Int.add_mul, Int.mul_assoc]
  generalize q * c = k at *
  omega

theorem Part.plus {N M c q r u s : Int} (p : Part N c q r) (m : Part M c u s) (h : r + s < c) : Part (N + M) c (q + u) (r + s) := by
  obtain ⟨a, b, d, e⟩ := p
  obtain ⟨a', b', d', e'⟩ := m
  refine ⟨?_, by omega, by omega, by omega⟩
  rw [Int.add_mul]
  generalize q * c = k at *
  omega

theorem Part.plus' {N M c q r u s : Int} (p : Part N c q r) (m : Part M c u s) (h : c ≤ r + s) : Part (N + M) c (q + u + 1) (r + s - c) := by
  obtain ⟨a, b, d, e⟩ := p
  obtain ⟨a', b', d', e'⟩ := m
  refine ⟨?_, by omega, by omega, by omega⟩
  rw [Int.add_mul, Int.add_mul]
  generalize q * c = k at *
  omega

theorem Part.of_div (N c : Int) (h0 : 0 ≤ N) (hc : 1 ≤ c) : Part N c (N / c) (N % c) :=
  ⟨by have := Int.mul_ediv_add_emod N c; rw [Int.mul_comm] at this; exact this, Int.emod_nonneg _ (by omega), Int.emod_lt_of_pos _ (by omega), Int.ediv_nonneg h0 (by omega)⟩

theorem Part.quo {N c q r : Int} (p : Part N c q r) : N / c = q := by
  obtain ⟨a, b, d, e⟩ := p
  have h1 : q ≤ N / c := Int.le_ediv_of_mul_le (by omega) (by omega)
  have h2 : N / c < q + 1 := Int.ediv_lt_of_lt_mul (by omega) (by rw [Int.add_mul]; omega)
  omega

/-- The quotient is too great already. -/
theorem Part.over {x a b c q r : Int} (p : Part (x * b) c q r) (hq : 9223372036854775807 < q) (hx : x ≤ a) (ha : 0 ≤ a) (hb : 0 ≤ b) (hc : 1 ≤ c) : mulDivI a b c = 9223372036854775807 := by
  unfold mulDivI
  rw [if_neg (by omega), if_pos]
  have h1 : x * b ≤ a * b := Int.mul_le_mul_of_nonneg_right hx hb
  have h2 := Int.ediv_le_ediv (c := c) (by omega) h1
  rw [p.quo] at h2
  omega

theorem Part.whole {a b c q r : Int} (p : Part (a * b) c q r) (hq : q ≤ 9223372036854775807) (ha : 0 ≤ a) (hb : 0 ≤ b) (hc : 1 ≤ c) : mulDivI a b c = q := by
  unfold mulDivI
  rw [if_neg (by omega), p.quo, if_neg (by omega)]

theorem too_much {a b c Q : Int} (h : Q * c ≤ a * b) (hQ : 9223372036854775807 < Q) (ha : 0 ≤ a) (hb : 0 ≤ b) (hc : 1 ≤ c) : mulDivI a b c = 9223372036854775807 := by
  unfold mulDivI
  rw [if_neg (by omega), if_pos]
  have h2 : Q ≤ a * b / c := Int.le_ediv_of_mul_le (by omega) h
  omega

/-- What was read of a so far is too much already. -/
theorem Part.much {N x a b c q r : Int} (p : Part N c q r) (hN : N ≤ x * b) (hx : x ≤ a) (hQ : 9223372036854775807 < q) (ha : 0 ≤ a) (hb : 0 ≤ b) (hc : 1 ≤ c) : mulDivI a b c = 9223372036854775807 := by
  have h1 : x * b ≤ a * b := Int.mul_le_mul_of_nonneg_right hx hb
  have h2 := p.eq
  have h3 := p.r0
  exact too_much (Q := q) (by omega) hQ ha hb hc

theorem Part.twice_le {x b c q r : Int} (_p : Part (x / 2 * b) c q r) (hb : 0 ≤ b) : 2 * (x / 2 * b) ≤ x * b := by
  rw [← Int.mul_assoc]
  exact Int.mul_le_mul_of_nonneg_right (by omega) hb

theorem even_eq {x b : Int} (h : x % 2 = 0) : 2 * (x / 2 * b) = x * b := by
  rw [← Int.mul_assoc]; congr 1; omega
theorem odd_eq {x b : Int} (h : x % 2 = 1) : 2 * (x / 2 * b) + b = x * b := by
  have e : x = 2 * (x / 2) + 1 := by omega
  have := congrArg (· * b) e
  simp only [Int.add_mul, Int.one_mul, Int.mul_assoc] at this
  omega

theorem no_err {a b c : Int} (ha : 0 ≤ a) (hb : 0 ≤ b) (hc : 1 ≤ c) : mulDivE a b c = 0 := by
  unfold mulDivE
  rw [if_neg (by omega)]

theorem halves (a : Int) (m : Nat) (ha : 0 ≤ a) : a / 2 ^ (m + 1) = a / 2 ^ m / 2 ∧ 0 ≤ a / 2 ^ m ∧ a / 2 ^ m ≤ a := by
  have hp : (0 : Int) < 2 ^ m := Int.pow_pos (by omega)
  refine ⟨?_, Int.ediv_nonneg ha (by omega), Int.ediv_le_self _ ha⟩
  rw [Int.ediv_ediv, if_neg (by omega), ← Int.pow_succ, Int.sub_zero]
end Go.Proofs.Ytifgdpokmgibgaa
