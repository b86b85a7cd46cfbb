/- The contract of the product of two words, in two words. -/
import Derived.Test.YtifgdpokmgibgaaSLeaf
import Derived.Laws.Bits64b
namespace Go.Proofs.Ytifgdpokmgibgaa
open Go.ChangeShapes Go.WideShapes Go.ChangeAt Go.RowKit
set_option linter.unusedVariables false

theorem low_half (a : Int) (h0 : 0 ≤ a) (h1 : a < 18446744073709551616) : bits .and .u64 a 4294967295 = a % 4294967296 := by
  obtain ⟨n, rfl⟩ := Int.eq_ofNat_of_zero_le h0
  have h := bits_and_u64_nat n 4294967295 (by omega) (by omega)
  rw [Nat.and_two_pow_sub_one_eq_mod n 32] at h
  refine h.trans ?_
  omega

theorem halves_bd {a b : Int} (ha : 0 ≤ a ∧ a ≤ 4294967295) (hb : 0 ≤ b ∧ b ≤ 4294967295) : 0 ≤ a * b ∧ a * b ≤ 18446744065119617025 :=
  ⟨Int.mul_nonneg ha.1 hb.1, by have := Int.mul_le_mul ha.2 hb.2 hb.1 (by omega : (0:Int) ≤ 4294967295); omega⟩

/-- The product by its halves. -/
theorem by_halves (x y : Int) : x * y = x / 4294967296 * (y / 4294967296) * 18446744073709551616 + (x / 4294967296 * (y % 4294967296) + x % 4294967296 * (y / 4294967296)) * 4294967296 + x % 4294967296 * (y % 4294967296) := by
  have hx : x = x / 4294967296 * 4294967296 + x % 4294967296 := by omega
  have hy : y = y / 4294967296 * 4294967296 + y % 4294967296 := by omega
  generalize x / 4294967296 = a at *
  generalize x % 4294967296 = b at *
  generalize y / 4294967296 = c at *
  generalize y % 4294967296 = d at *
  subst hx hy
  rw [Int.add_mul, Int.mul_add, Int.mul_add, Int.add_mul]
  rw [Int.mul_right_comm a 4294967296 d, ← Int.mul_assoc b c 4294967296, ← Int.mul_assoc (a * 4294967296) c 4294967296, Int.mul_right_comm a 4294967296 c]
  omega

theorem mul_high (x y : Int) (hx : 0 ≤ x ∧ x < 18446744073709551616) (hy : 0 ≤ y ∧ y < 18446744073709551616) :
    x / 4294967296 * (y / 4294967296) + (x / 4294967296 * (y % 4294967296) + x % 4294967296 * (y % 4294967296) / 4294967296) / 4294967296 + ((x / 4294967296 * (y % 4294967296) + x % 4294967296 * (y % 4294967296) / 4294967296) % 4294967296 + x % 4294967296 * (y / 4294967296)) / 4294967296 = x * y / 18446744073709551616 := by
  have e := by_halves x y
  rw [e]
  generalize x / 4294967296 * (y / 4294967296) = p11
  generalize x / 4294967296 * (y % 4294967296) = p10
  generalize x % 4294967296 * (y / 4294967296) = p01
  generalize x % 4294967296 * (y % 4294967296) = p00
  omega

theorem ret_two {k l : IntKind} {a b c d : Int} (h : a = b) (g : c = d) : Ending.returned (.tuple #[.int k a, .int l c]) = .returned (.tuple #[.int k b, .int l d]) := by rw [h, g]

set_option maxHeartbeats 400000 in
theorem mul_walk (x y : Int) (hx : 0 ≤ x ∧ x < 18446744073709551616) (hy : 0 ≤ y ∧ y < 18446744073709551616) (w : World) :
    Calls Try.prog 31 #[.int .u64 x, .int .u64 y] w fun e w' => e = .returned (.tuple #[.int .u64 (x * y / 18446744073709551616), .int .u64 (x * y % 18446744073709551616)]) ∧ w' = w := by
  have x0 := low_half x hx.1 hx.2
  have y0 := low_half y hy.1 hy.2
  have p11 := halves_bd (a := x / 4294967296) (b := y / 4294967296) (by omega) (by omega)
  have p10 := halves_bd (a := x / 4294967296) (b := y % 4294967296) (by omega) (by omega)
  have p01 := halves_bd (a := x % 4294967296) (b := y / 4294967296) (by omega) (by omega)
  have p00 := halves_bd (a := x % 4294967296) (b := y % 4294967296) (by omega) (by omega)
  have t0 := low_half (x / 4294967296 * (y % 4294967296) + x % 4294967296 * (y % 4294967296) / 4294967296) (by omega) (by omega)
  go_enter Try.func31, Try.ntmps31
  go_wp2
  go_ret2
  refine ⟨ret_two ?_ ?_, rfl⟩
  · exact mul_high x y hx hy
  · exact IntKind.wrap_u64 _
end Go.Proofs.Ytifgdpokmgibgaa
