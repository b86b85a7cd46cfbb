/- MulDiv, of products that a word holds. -/
import Derived.Test.YtfkkpianlmpknaaGiv0
import Derived.Laws.Bits64b
import Derived.BigQuiet
import Derived.Deep.QuietTactic
namespace Go.Proofs.Ytfkkpianlmpknaa
open Go.ChangeShapes Go.WideShapes Go.ChangeAt Go.RowKit Go.Shelf
set_option linter.unusedVariables false
set_option linter.unusedSimpArgs false
attribute [local go_sem] Oper.semAt_some
theorem low_half (a : Int) (h0 : 0 ≤ a) (h1 : a < 18446744073709551616) : bits .and .u64 a 4294967295 = a % 4294967296 := by
  obtain ⟨n, rfl⟩ := Int.eq_ofNat_of_zero_le h0
  have h := bits_and_u64_nat n 4294967295 (by omega) (by omega)
  rw [Nat.and_two_pow_sub_one_eq_mod n 32] at h
  refine h.trans ?_
  omega

theorem halves_bd {a b : Int} (ha : 0 ≤ a ∧ a ≤ 4294967295) (hb : 0 ≤ b ∧ b ≤ 4294967295) : 0 ≤ a * b ∧ a * b ≤ 18446744065119617025 :=
  ⟨Int.mul_nonneg ha.1 hb.1, by have := Int.mul_le_mul ha.2 hb.2 hb.1 (by omega : (0:Int) ≤ 4294967295); omega⟩

/-- The product by its halves. -/
theorem by_halves (x y : Int) : x * y = x / 4294967296 * (y / 4294967296) * 18446744073709551616 + (x / 4294967296 * (y % 4294967296) + x % 4294967296 * (y / 4294967296)) * 4294967296 + x % 4294967296 * (y % 4294967296) := by
  have hx : x = x / 4294967296 * 4294967296 + x % 4294967296 := by omega
  have hy : y = y / 4294967296 * 4294967296 + y % 4294967296 := by omega
  generalize x / 4294967296 = a at *
  generalize x % 4294967296 = b at *
  generalize y / 4294967296 = c at *
  generalize y % 4294967296 = d at *
  subst hx hy
  rw [Int.add_mul, Int.mul_add, Int.mul_add, Int.add_mul]
  rw [Int.mul_right_comm a 4294967296 d, ← Int.mul_assoc b c 4294967296, ← Int.mul_assoc (a * 4294967296) c 4294967296, Int.mul_right_comm a 4294967296 c]
  omega

theorem mul_high (x y : Int) (hx : 0 ≤ x ∧ x < 18446744073709551616) (hy : 0 ≤ y ∧ y < 18446744073709551616) :
    x / 4294967296 * (y / 4294967296) + (x / 4294967296 * (y % 4294967296) + x % 4294967296 * (y % 4294967296) / 4294967296) / 4294967296 + ((x / 4294967296 * (y % 4294967296) + x % 4294967296 * (y % 4294967296) / 4294967296) % 4294967296 + x % 4294967296 * (y / 4294967296)) / 4294967296 = x * y / 18446744073709551616 := by
  have e := by_halves x y
  rw [e]
  generalize x / 4294967296 * (y / 4294967296) = p11
  generalize x / 4294967296 * (y % 4294967296) = p10
  generalize x % 4294967296 * (y / 4294967296) = p01
  generalize x % 4294967296 * (y % 4294967296) = p00
  omega

theorem ret_two {k l : IntKind} {a b c d : Int} (h : a = b) (g : c = d) : Ending.returned (.tuple #[.int k a, .int l c]) = .returned (.tuple #[.int k b, .int l d]) := by rw [h, g]

set_option maxHeartbeats 400000 in
theorem mul_walk (x y : Int) (hx : 0 ≤ x ∧ x < 18446744073709551616) (hy : 0 ≤ y ∧ y < 18446744073709551616) (w : World) :
    Calls Try.prog 40 #[.int .u64 x, .int .u64 y] w fun e w' => e = .returned (.tuple #[.int .u64 (x * y / 18446744073709551616), .int .u64 (x * y % 18446744073709551616)]) ∧ w' = w := by
  have x0 := low_half x hx.1 hx.2
  have y0 := low_half y hy.1 hy.2
  have p11 := halves_bd (a := x / 4294967296) (b := y / 4294967296) (by omega) (by omega)
  have p10 := halves_bd (a := x / 4294967296) (b := y % 4294967296) (by omega) (by omega)
  have p01 := halves_bd (a := x % 4294967296) (b := y / 4294967296) (by omega) (by omega)
  have p00 := halves_bd (a := x % 4294967296) (b := y % 4294967296) (by omega) (by omega)
  have t0 := low_half (x / 4294967296 * (y % 4294967296) + x % 4294967296 * (y % 4294967296) / 4294967296) (by omega) (by omega)
  go_enter Try.func40, Try.ntmps40
  go_wp2
  go_ret2
  refine ⟨ret_two ?_ ?_, rfl⟩
  · exact mul_high x y hx hy
  · exact IntKind.wrap_u64 _
theorem div0_walk (lo y : Int) (h1 : 1 ≤ y) (hy : y < 18446744073709551616) (hl : 0 ≤ lo ∧ lo < 18446744073709551616) (w : World) :
    Calls Try.prog 41 #[.int .u64 0, .int .u64 lo, .int .u64 y] w fun e w' => (∃ r, e = .returned (.tuple #[.int .u64 (lo / y), .int .u64 r])) ∧ ∃ n, w' = w.drewN n := by
  have hq0 : 0 ≤ lo / y := Int.ediv_nonneg hl.1 (by omega)
  have hq1 : lo / y ≤ lo := Int.ediv_le_self _ hl.1
  go_enter Try.func41, Try.ntmps41
  go_wp2
  go_quiet (fail)
  go_wp2
  go_ret2
  exact ⟨⟨_, rfl⟩, _, rfl⟩


set_option maxRecDepth 100000 in
set_option maxHeartbeats 4000000 in
theorem mulDiv4_is (a b : Int) (ha : 1 ≤ a ∧ a ≤ 255) (hb : 0 ≤ b ∧ b ≤ 1125899906842624) (q : Int) (hq : a * b / 4 = q) (w : World) :
    Calls Try.prog 34 #[.int .i64 a, .int .i64 b, .int .i64 4] w fun e w' => e = .returned (.tuple #[.int .i64 q, .int .i64 0]) ∧ Below w.heap.size w w' := by
  have hp : 0 ≤ a * b := Int.mul_nonneg (by omega) (by omega)
  have hp2 : a * b ≤ 255 * 1125899906842624 := Int.mul_le_mul ha.2 hb.2 (by omega) (by omega)
  have hm : ∀ w, Calls Try.prog 40 #[.int .u64 a, .int .u64 b] w fun e w' => e = .returned (.tuple #[.int .u64 0, .int .u64 (a * b)]) ∧ w' = w := by
    intro w
    have := mul_walk a b (by omega) (by omega) w
    rw [show a * b / 18446744073709551616 = 0 by omega, show a * b % 18446744073709551616 = a * b by omega] at this
    exact this
  have hd : ∀ w, Calls Try.prog 41 #[.int .u64 0, .int .u64 (a * b), .int .u64 4] w fun e w' => (∃ r, e = .returned (.tuple #[.int .u64 q, .int .u64 r])) ∧ ∃ n, w' = w.drewN n := by
    intro w
    have := div0_walk (a * b) 4 (by omega) (by omega) (by omega) w
    rw [hq] at this
    exact this
  have hq2 : 0 ≤ q ∧ q ≤ 71776119061217280 := by omega
  clear hq
  obtain ⟨p, hp0⟩ : ∃ p, a * b = p := ⟨_, rfl⟩
  rw [hp0] at hm hd
  clear hp0 hp hp2
  go_enter Try.func34, Try.ntmps34
  go_wp2_with fail
  refine (hm _).mono ?_
  rintro e w' ⟨rfl, rfl⟩
  go_wp2_with fail
  refine (hd _).mono ?_
  rintro e w' ⟨⟨r, rfl⟩, n, rfl⟩
  go_wp2_with fail
  all_goals go_ret2
  all_goals exact ⟨ret_two (by omega) rfl, below_drewN (Below.refl _ _) _⟩
end Go.Proofs.Ytfkkpianlmpknaa
