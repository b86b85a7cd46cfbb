/- One digit of a long division: the plain arithmetic, with no Go in sight. -/
import Derived.RowKit
namespace Go.Proofs.Ytifgdpokmgibgaa

/-- q is a guess, not too small, of the digit of (u, v) by (d, e), and r what it leaves of u. -/
structure Guess (u v d e q r : Int) : Prop where
  eq : q * d + r = u
  q0 : 0 ≤ q
  q1 : q ≤ 4294967297
  r0 : 0 ≤ r
  up : (u * 4294967296 + v) / (d * 4294967296 + e) ≤ q

structure Known (u v d e : Int) : Prop where
  d0 : 2147483648 ≤ d
  d1 : d ≤ 4294967295
  e0 : 0 ≤ e
  e1 : e ≤ 4294967295
  v0 : 0 ≤ v
  v1 : v ≤ 4294967295
  u0 : 0 ≤ u
  u1 : u < d * 4294967296 + e

theorem Known.first {u v d e : Int} (k : Known u v d e) : Guess u v d e (u / d) (u - u / d * d) := by
  have h1 := k.d0
  have h2 := k.u0
  have hq : 0 ≤ u / d := Int.ediv_nonneg h2 (by omega)
  have hm : u / d * d ≤ u := Int.ediv_mul_le u (by omega)
  have hlt : u < (u / d + 1) * d := Int.lt_ediv_add_one_mul_self u (by omega)
  refine ⟨by omega, hq, ?_, by omega, ?_⟩
  · have h3 := k.u1
    have h4 := k.e1
    have h5 : u / d < 4294967298 := Int.ediv_lt_of_lt_mul (by omega) (by omega)
    omega
  · -- N < (q+1)*D
    have h3 := k.v1
    have h4 := k.e0
    have h6 : (u * 4294967296 + v) / (d * 4294967296 + e) < u / d + 1 := by
      refine Int.ediv_lt_of_lt_mul (by omega) ?_
      rw [Int.mul_add, ← Int.mul_assoc]
      have h7 : 0 ≤ (u / d + 1) * e := Int.mul_nonneg (by omega) h4
      generalize (u / d + 1) * d = p at *
      omega
    omega

theorem Known.small {u v d e : Int} (k : Known u v d e) : u - u / d * d < 4294967296 := by
  have h1 := k.d0
  have h2 := k.d1
  have hlt : u < (u / d + 1) * d := Int.lt_ediv_add_one_mul_self u (by omega)
  rw [Int.add_mul] at hlt
  omega

/-- Too great a guess: one less is one still. -/
theorem Guess.less {u v d e q r : Int} (g : Guess u v d e q r) (k : Known u v d e) (h : 4294967296 ≤ q ∨ 4294967296 * r + v < q * e) :
    1 ≤ q ∧ q - 1 ≤ 4294967296 ∧ Guess u v d e (q - 1) (r + d) := by
  have hd := k.d0
  have he := k.e0
  have hv := k.v0
  have hv1 := k.v1
  have hu := k.u1
  have hr := g.r0
  have hq0 := g.q0
  have hq : 1 ≤ q := by
    rcases h with h | h
    · omega
    · by_cases hz : q = 0
      · subst hz; omega
      · omega
  have hlt : u * 4294967296 + v < q * (d * 4294967296 + e) := by
    rcases h with h | h
    · have := Int.mul_le_mul_of_nonneg_right h (show 0 ≤ d * 4294967296 + e by omega)
      omega
    · have e1 := g.eq
      rw [Int.mul_add, ← Int.mul_assoc]
      generalize q * d = p at *
      omega
  have hup : (u * 4294967296 + v) / (d * 4294967296 + e) < q := Int.ediv_lt_of_lt_mul (by omega) hlt
  refine ⟨hq, by have := g.q1; omega, ⟨?_, by omega, by have := g.q1; omega, by omega, by omega⟩⟩
  have e1 := g.eq
  rw [Int.sub_mul]
  omega

theorem Guess.exact {u v d e q r : Int} (g : Guess u v d e q r) (k : Known u v d e) (h : q * e ≤ 4294967296 * r + v) :
    (u * 4294967296 + v) / (d * 4294967296 + e) = q := by
  have hd := k.d0
  have he := k.e0
  have hup := g.up
  have hle : q ≤ (u * 4294967296 + v) / (d * 4294967296 + e) := by
    refine Int.le_ediv_of_mul_le (by omega) ?_
    have e1 := g.eq
    rw [Int.mul_add, ← Int.mul_assoc]
    generalize q * d = p at *
    omega
  omega

theorem Guess.over {u v d e q r : Int} (g : Guess u v d e q r) (k : Known u v d e) (hq : q ≤ 4294967296) (h : 4294967296 ≤ r) :
    (u * 4294967296 + v) / (d * 4294967296 + e) = q := by
  refine g.exact k ?_
  have h1 := Int.mul_le_mul hq k.e1 k.e0 (by omega : (0:Int) ≤ 4294967296)
  have := k.v0
  omega

/-- The digit fits, and what is left is below the divisor. -/
theorem Known.fits {u v d e : Int} (k : Known u v d e) : 0 ≤ (u * 4294967296 + v) / (d * 4294967296 + e) ∧ (u * 4294967296 + v) / (d * 4294967296 + e) ≤ 4294967295 ∧
    0 ≤ u * 4294967296 + v - (u * 4294967296 + v) / (d * 4294967296 + e) * (d * 4294967296 + e) ∧ u * 4294967296 + v - (u * 4294967296 + v) / (d * 4294967296 + e) * (d * 4294967296 + e) < d * 4294967296 + e := by
  have hd := k.d0
  have he := k.e0
  have hu := k.u1
  have hu0 := k.u0
  have hv := k.v0
  have hv1 := k.v1
  have h1 : 0 ≤ (u * 4294967296 + v) / (d * 4294967296 + e) := Int.ediv_nonneg (by omega) (by omega)
  have h2 : (u * 4294967296 + v) / (d * 4294967296 + e) < 4294967296 := Int.ediv_lt_of_lt_mul (by omega) (by omega)
  have h3 := Int.ediv_mul_le (u * 4294967296 + v) (b := d * 4294967296 + e) (by omega)
  have h4 := Int.lt_ediv_add_one_mul_self (u * 4294967296 + v) (b := d * 4294967296 + e) (by omega)
  rw [Int.add_mul] at h4
  exact ⟨h1, by omega, by omega, by omega⟩

/-- Two digits, one behind the other, are the quotient. -/
theorem two_digits {u v x D q s : Int} (hD : 0 < D) (hs : s = u * 4294967296 + v - q * D) :
    (u * 18446744073709551616 + v * 4294967296 + x) / D = q * 4294967296 + (s * 4294967296 + x) / D := by
  have h : u * 18446744073709551616 + v * 4294967296 + x = (s * 4294967296 + x) + q * 4294967296 * D := by
    rw [Int.mul_right_comm]
    generalize q * D = p at *
    omega
  rw [h, Int.add_mul_ediv_right _ _ (by omega)]
  omega
end Go.Proofs.Ytifgdpokmgibgaa
