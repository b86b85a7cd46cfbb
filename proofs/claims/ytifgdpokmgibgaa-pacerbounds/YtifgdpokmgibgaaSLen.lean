/- How many bits a word has. -/
import Derived.Test.YtifgdpokmgibgaaSLeaf
import Derived.Laws.Bits64b
namespace Go.Proofs.Ytifgdpokmgibgaa
open Go.ChangeShapes Go.WideShapes Go.ChangeAt Go.RowKit
set_option linter.unusedVariables false

/-- Of each number below 256 how many bits it has. -/
def bitsOf : ByteArray := { data := #[0, 1, 2, 2, 3, 3, 3, 3, 4, 4, 4, 4, 4, 4, 4, 4, 5, 5, 5, 5, 5, 5, 5, 5, 5, 5, 5, 5, 5, 5, 5, 5, 6, 6, 6, 6, 6, 6, 6, 6, 6, 6, 6, 6, 6, 6, 6, 6, 6, 6, 6, 6, 6, 6, 6, 6, 6, 6, 6, 6, 6, 6, 6, 6, 7, 7, 7, 7, 7, 7, 7, 7, 7, 7, 7, 7, 7, 7, 7, 7, 7, 7, 7, 7, 7, 7, 7, 7, 7, 7, 7, 7, 7, 7, 7, 7, 7, 7, 7, 7, 7, 7, 7, 7, 7, 7, 7, 7, 7, 7, 7, 7, 7, 7, 7, 7, 7, 7, 7, 7, 7, 7, 7, 7, 7, 7, 7, 7, 8, 8, 8, 8, 8, 8, 8, 8, 8, 8, 8, 8, 8, 8, 8, 8, 8, 8, 8, 8, 8, 8, 8, 8, 8, 8, 8, 8, 8, 8, 8, 8, 8, 8, 8, 8, 8, 8, 8, 8, 8, 8, 8, 8, 8, 8, 8, 8, 8, 8, 8, 8, 8, 8, 8, 8, 8, 8, 8, 8, 8, 8, 8, 8, 8, 8, 8, 8, 8, 8, 8, 8, 8, 8, 8, 8, 8, 8, 8, 8, 8, 8, 8, 8, 8, 8, 8, 8, 8, 8, 8, 8, 8, 8, 8, 8, 8, 8, 8, 8, 8, 8, 8, 8, 8, 8, 8, 8, 8, 8, 8, 8, 8, 8, 8, 8, 8, 8, 8, 8, 8, 8, 8, 8, 8, 8, 8, 8] }

theorem bitsOf_size : bitsOf.size = 256 := by decide +kernel

theorem bitsOf_all : ∀ j : Fin 256, 1 ≤ j.val → 1 ≤ (bitsOf[j.val]'(by rw [bitsOf_size]; exact j.isLt)).toNat ∧ (bitsOf[j.val]'(by rw [bitsOf_size]; exact j.isLt)).toNat ≤ 8 ∧ 2 ^ ((bitsOf[j.val]'(by rw [bitsOf_size]; exact j.isLt)).toNat - 1) ≤ j.val ∧ j.val < 2 ^ (bitsOf[j.val]'(by rw [bitsOf_size]; exact j.isLt)).toNat := by
  decide +kernel

/-- n is how many bits y has. -/
def Long (y : Int) (n : Nat) : Prop := 1 ≤ n ∧ n ≤ 64 ∧ (2 : Int) ^ (n - 1) ≤ y ∧ y < (2 : Int) ^ n

theorem long_of (y : Int) (t j : Nat) (hj : j < bitsOf.size) (h1 : 1 ≤ j) (ht : t ≤ 56) (hlo : (2 : Int) ^ t * j ≤ y) (hhi : y < (2 : Int) ^ t * (j + 1)) :
    bitsOf[j].toNat ≤ 8 ∧ Long y (t + bitsOf[j].toNat) := by
  have hj' : j < 256 := by rw [bitsOf_size] at hj; exact hj
  obtain ⟨b1, b2, b3, b4⟩ := bitsOf_all ⟨j, hj'⟩ h1
  refine ⟨b2, ?_⟩
  generalize hn : (bitsOf[j]'hj).toNat = n
  have hn' : (bitsOf[(⟨j, hj'⟩ : Fin 256).val]'(by rw [bitsOf_size]; exact hj')).toNat = n := hn
  rw [hn'] at b1 b2 b3 b4
  simp only at b3 b4
  refine ⟨by omega, by omega, ?_, ?_⟩
  · have e : t + n - 1 = t + (n - 1) := by omega
    rw [e, Int.pow_add]
    have h2 : (2 : Int) ^ (n - 1) ≤ j := by exact_mod_cast b3
    exact Int.le_trans (Int.mul_le_mul_of_nonneg_left h2 (by exact Int.le_of_lt (Int.pow_pos (by omega)))) hlo
  · rw [Int.pow_add]
    have h2 : (j : Int) + 1 ≤ (2 : Int) ^ n := by exact_mod_cast b4
    exact Int.lt_of_lt_of_le hhi (Int.mul_le_mul_of_nonneg_left h2 (by exact Int.le_of_lt (Int.pow_pos (by omega))))

theorem len_end {y : Int} {w : World} (t j : Nat) (x : Int) (hj : j < bitsOf.size) (h1 : 1 ≤ j) (ht : t ≤ 56) (hlo : (2 : Int) ^ t * j ≤ y) (hhi : y < (2 : Int) ^ t * (j + 1)) (hx : bitsOf[j].toNat ≤ 8 → x = ((t + bitsOf[j].toNat : Nat) : Int)) :
    (∃ n : Nat, Ending.returned (.int .i64 x) = .returned (.int .i64 n) ∧ Long y n) ∧ w = w := by
  obtain ⟨a, b⟩ := long_of y t j hj h1 ht hlo hhi
  exact ⟨⟨_, ret_int (hx a), b⟩, rfl⟩

set_option maxRecDepth 1000000 in
set_option maxHeartbeats 1000000 in
theorem len_walk0 (y : Int) (h0 : 1 ≤ y) (hy : y < 256) (w : World) :
    Calls Try.prog 35 #[.int .u64 y] w fun e w' => (∃ n : Nat, e = .returned (.int .i64 n) ∧ Long y n) ∧ w' = w := by
  go_enter Try.func35, Try.ntmps35
  go_wp2
  go_ret
  refine len_end 0 (y).toNat _ (by rw [bitsOf_size]; omega) (by omega) (by omega) (by omega) (by omega) ?_
  intro hb
  show wrap64 (wrap64 ((bitsOf[(y).toNat]'(by rw [bitsOf_size]; omega)).toNat : Int)) = _
  generalize (bitsOf[(y).toNat]'(by rw [bitsOf_size]; omega)).toNat = n at *
  unfold wrap64
  omega

set_option maxRecDepth 1000000 in
set_option maxHeartbeats 1000000 in
theorem len_walk8 (y : Int) (h0 : 256 ≤ y) (hy : y < 65536) (w : World) :
    Calls Try.prog 35 #[.int .u64 y] w fun e w' => (∃ n : Nat, e = .returned (.int .i64 n) ∧ Long y n) ∧ w' = w := by
  go_enter Try.func35, Try.ntmps35
  go_wp2
  go_ret
  refine len_end 8 (y / 256).toNat _ (by rw [bitsOf_size]; omega) (by omega) (by omega) (by omega) (by omega) ?_
  intro hb
  show wrap64 (8 + wrap64 ((bitsOf[(y / 256).toNat]'(by rw [bitsOf_size]; omega)).toNat : Int)) = _
  generalize (bitsOf[(y / 256).toNat]'(by rw [bitsOf_size]; omega)).toNat = n at *
  unfold wrap64
  omega

set_option maxRecDepth 1000000 in
set_option maxHeartbeats 1000000 in
theorem len_walk16 (y : Int) (h0 : 65536 ≤ y) (hy : y < 16777216) (w : World) :
    Calls Try.prog 35 #[.int .u64 y] w fun e w' => (∃ n : Nat, e = .returned (.int .i64 n) ∧ Long y n) ∧ w' = w := by
  go_enter Try.func35, Try.ntmps35
  go_wp2
  go_ret
  refine len_end 16 (y / 65536).toNat _ (by rw [bitsOf_size]; omega) (by omega) (by omega) (by omega) (by omega) ?_
  intro hb
  show wrap64 (16 + wrap64 ((bitsOf[(y / 65536).toNat]'(by rw [bitsOf_size]; omega)).toNat : Int)) = _
  generalize (bitsOf[(y / 65536).toNat]'(by rw [bitsOf_size]; omega)).toNat = n at *
  unfold wrap64
  omega

set_option maxRecDepth 1000000 in
set_option maxHeartbeats 1000000 in
theorem len_walk24 (y : Int) (h0 : 16777216 ≤ y) (hy : y < 4294967296) (w : World) :
    Calls Try.prog 35 #[.int .u64 y] w fun e w' => (∃ n : Nat, e = .returned (.int .i64 n) ∧ Long y n) ∧ w' = w := by
  go_enter Try.func35, Try.ntmps35
  go_wp2
  go_ret
  refine len_end 24 (y / 65536 / 256).toNat _ (by rw [bitsOf_size]; omega) (by omega) (by omega) (by omega) (by omega) ?_
  intro hb
  show wrap64 (24 + wrap64 ((bitsOf[(y / 65536 / 256).toNat]'(by rw [bitsOf_size]; omega)).toNat : Int)) = _
  generalize (bitsOf[(y / 65536 / 256).toNat]'(by rw [bitsOf_size]; omega)).toNat = n at *
  unfold wrap64
  omega

set_option maxRecDepth 1000000 in
set_option maxHeartbeats 1000000 in
theorem len_walk32 (y : Int) (h0 : 4294967296 ≤ y) (hy : y < 1099511627776) (w : World) :
    Calls Try.prog 35 #[.int .u64 y] w fun e w' => (∃ n : Nat, e = .returned (.int .i64 n) ∧ Long y n) ∧ w' = w := by
  go_enter Try.func35, Try.ntmps35
  go_wp2
  go_ret
  refine len_end 32 (y / 4294967296).toNat _ (by rw [bitsOf_size]; omega) (by omega) (by omega) (by omega) (by omega) ?_
  intro hb
  show wrap64 (32 + wrap64 ((bitsOf[(y / 4294967296).toNat]'(by rw [bitsOf_size]; omega)).toNat : Int)) = _
  generalize (bitsOf[(y / 4294967296).toNat]'(by rw [bitsOf_size]; omega)).toNat = n at *
  unfold wrap64
  omega

set_option maxRecDepth 1000000 in
set_option maxHeartbeats 1000000 in
theorem len_walk40 (y : Int) (h0 : 1099511627776 ≤ y) (hy : y < 281474976710656) (w : World) :
    Calls Try.prog 35 #[.int .u64 y] w fun e w' => (∃ n : Nat, e = .returned (.int .i64 n) ∧ Long y n) ∧ w' = w := by
  go_enter Try.func35, Try.ntmps35
  go_wp2
  go_ret
  refine len_end 40 (y / 4294967296 / 256).toNat _ (by rw [bitsOf_size]; omega) (by omega) (by omega) (by omega) (by omega) ?_
  intro hb
  show wrap64 (40 + wrap64 ((bitsOf[(y / 4294967296 / 256).toNat]'(by rw [bitsOf_size]; omega)).toNat : Int)) = _
  generalize (bitsOf[(y / 4294967296 / 256).toNat]'(by rw [bitsOf_size]; omega)).toNat = n at *
  unfold wrap64
  omega

set_option maxRecDepth 1000000 in
set_option maxHeartbeats 1000000 in
theorem len_walk48 (y : Int) (h0 : 281474976710656 ≤ y) (hy : y < 72057594037927936) (w : World) :
    Calls Try.prog 35 #[.int .u64 y] w fun e w' => (∃ n : Nat, e = .returned (.int .i64 n) ∧ Long y n) ∧ w' = w := by
  go_enter Try.func35, Try.ntmps35
  go_wp2
  go_ret
  refine len_end 48 (y / 4294967296 / 65536).toNat _ (by rw [bitsOf_size]; omega) (by omega) (by omega) (by omega) (by omega) ?_
  intro hb
  show wrap64 (48 + wrap64 ((bitsOf[(y / 4294967296 / 65536).toNat]'(by rw [bitsOf_size]; omega)).toNat : Int)) = _
  generalize (bitsOf[(y / 4294967296 / 65536).toNat]'(by rw [bitsOf_size]; omega)).toNat = n at *
  unfold wrap64
  omega

set_option maxRecDepth 1000000 in
set_option maxHeartbeats 1000000 in
theorem len_walk56 (y : Int) (h0 : 72057594037927936 ≤ y) (hy : y < 18446744073709551616) (w : World) :
    Calls Try.prog 35 #[.int .u64 y] w fun e w' => (∃ n : Nat, e = .returned (.int .i64 n) ∧ Long y n) ∧ w' = w := by
  go_enter Try.func35, Try.ntmps35
  go_wp2
  go_ret
  refine len_end 56 (y / 4294967296 / 65536 / 256).toNat _ (by rw [bitsOf_size]; omega) (by omega) (by omega) (by omega) (by omega) ?_
  intro hb
  show wrap64 (56 + wrap64 ((bitsOf[(y / 4294967296 / 65536 / 256).toNat]'(by rw [bitsOf_size]; omega)).toNat : Int)) = _
  generalize (bitsOf[(y / 4294967296 / 65536 / 256).toNat]'(by rw [bitsOf_size]; omega)).toNat = n at *
  unfold wrap64
  omega

theorem len_walk (y : Int) (h0 : 1 ≤ y) (hy : y < 18446744073709551616) (w : World) :
    Calls Try.prog 35 #[.int .u64 y] w fun e w' => (∃ n : Nat, e = .returned (.int .i64 n) ∧ Long y n) ∧ w' = w := by
  by_cases c0 : y < 256
  · exact len_walk0 y (by omega) c0 w
  by_cases c8 : y < 65536
  · exact len_walk8 y (by omega) c8 w
  by_cases c16 : y < 16777216
  · exact len_walk16 y (by omega) c16 w
  by_cases c24 : y < 4294967296
  · exact len_walk24 y (by omega) c24 w
  by_cases c32 : y < 1099511627776
  · exact len_walk32 y (by omega) c32 w
  by_cases c40 : y < 281474976710656
  · exact len_walk40 y (by omega) c40 w
  by_cases c48 : y < 72057594037927936
  · exact len_walk48 y (by omega) c48 w
  exact len_walk56 y (by omega) hy w

theorem lead_walk (y : Int) (h0 : 1 ≤ y) (hy : y < 18446744073709551616) (w : World) :
    Calls Try.prog 34 #[.int .u64 y] w fun e w' => (∃ n : Nat, e = .returned (.int .i64 (64 - (n : Int))) ∧ Long y n) ∧ w' = w := by
  go_enter Try.func34, Try.ntmps34
  go_wp2_with fail
  refine (len_walk y h0 hy _).mono ?_
  rintro e w' ⟨⟨n, rfl, hL⟩, rfl⟩
  have hn1 := hL.1
  have hn2 := hL.2.1
  have H : Hid (Long y n) := hL
  clear hL
  go_wp2
  go_ret
  exact ⟨⟨n, rfl, H.out⟩, rfl⟩
end Go.Proofs.Ytifgdpokmgibgaa
