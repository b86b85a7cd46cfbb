/- The contracts of both cube roots. -/
import Derived.Test.YtikcjdoeoghoeaaSLeaf
import Derived.Laws.Bits64b
namespace Go.Proofs.Ytikcjdoeoghoeaa
open Go.ChangeShapes Go.WideShapes Go.ChangeAt Go.RowKit
set_option linter.unusedVariables false

theorem bits_or_i64_nat (a b : Nat) (ha : a < 4611686018427387904) (hb : b < 4611686018427387904) :
    bits .or .i64 (a : Int) (b : Int) = ((a ||| b : Nat) : Int) := by
  have hx : a ||| b < 2 ^ 62 := Nat.or_lt_two_pow (by omega) (by omega)
  have h1 : (BitVec.ofInt 64 (a : Int)).toNat = a := by
    rw [BitVec.ofInt_natCast, BitVec.toNat_ofNat]; exact Nat.mod_eq_of_lt (by omega)
  have h2 : (BitVec.ofInt 64 (b : Int)).toNat = b := by
    rw [BitVec.ofInt_natCast, BitVec.toNat_ofNat]; exact Nat.mod_eq_of_lt (by omega)
  show IntKind.i64.wrap ((BitVec.ofInt 64 (a : Int) ||| BitVec.ofInt 64 (b : Int)).toNat : Int) = _
  rw [BitVec.toNat_or, h1, h2]
  simp [IntKind.wrap, IntKind.bits, IntKind.signed]
  omega

/-- The next bit of a root: 2^(20-k) joined to what has none of the last 21-k bits. -/
theorem bit_or (k Q : Nat) (hk : k < 21) (h : 2 ^ (21 - k) * (Q + 1) ≤ 2097152) :
    bits .or .i64 ((2 ^ (21 - k) * Q : Nat) : Int) (wrap64 (2 ^ (20 - k))) = ((2 ^ (21 - k) * Q + 2 ^ (20 - k) : Nat) : Int) := by
  have e : 2 ^ (21 - k) = 2 * 2 ^ (20 - k) := by rw [← Nat.pow_succ']; congr 1; omega
  have hp : 0 < 2 ^ (20 - k) := Nat.pow_pos (by omega)
  have hle : 2 ^ (20 - k) ≤ 2 ^ 20 := Nat.pow_le_pow_right (by omega) (by omega)
  have hw : wrap64 (2 ^ (20 - k)) = ((2 ^ (20 - k) : Nat) : Int) := by
    have h2 : ((2 : Int) ^ (20 - k)) = ((2 ^ (20 - k) : Nat) : Int) := by simp
    rw [h2]
    exact IntWalk.wrap64_in _ ⟨by omega, by omega⟩
  have hQ : 2 ^ (21 - k) * Q ≤ 2 ^ (21 - k) * (Q + 1) := Nat.mul_le_mul_left _ (by omega)
  rw [hw, bits_or_i64_nat _ _ (by omega) (by omega)]
  have := Nat.two_pow_add_eq_or_of_lt (i := 21 - k) (b := 2 ^ (20 - k)) (by omega) Q
  rw [this]

def Bit (n : Int) (k Q : Nat) : Prop :=
  2 ^ (21 - k) * (Q + 1) ≤ 2097152 ∧ (Q = 0 ∨ ((2 ^ (21 - k) * Q : Nat) : Int) * ((2 ^ (21 - k) * Q : Nat) : Int) * ((2 ^ (21 - k) * Q : Nat) : Int) ≤ n) ∧
  (2 ^ (21 - k) * (Q + 1) = 2097152 ∨ n < ((2 ^ (21 - k) * (Q + 1) : Nat) : Int) * ((2 ^ (21 - k) * (Q + 1) : Nat) : Int) * ((2 ^ (21 - k) * (Q + 1) : Nat) : Int))

theorem two_half (k : Nat) (hk : k < 21) : 2 ^ (21 - k) = 2 * 2 ^ (21 - (k + 1)) := by rw [← Nat.pow_succ']; congr 1; omega

theorem Bit.yes {n : Int} {k Q : Nat} (hk : k < 21) (h : Bit n k Q) (m : Int) (hm : m = ((2 ^ (21 - k) * Q + 2 ^ (20 - k) : Nat) : Int)) (hle : m * m * m ≤ n) :
    Bit n (k + 1) (2 * Q + 1) ∧ m = ((2 ^ (21 - (k + 1)) * (2 * Q + 1) : Nat) : Int) := by
  obtain ⟨h1, h2, h3⟩ := h
  have e := two_half k hk
  have e2 : 20 - k = 21 - (k + 1) := by omega
  rw [e2] at hm
  have e3 : 2 ^ (21 - k) * (Q + 1) = 2 ^ (21 - (k + 1)) * (2 * Q + 1 + 1) := by rw [e, Nat.mul_assoc, Nat.mul_left_comm]; congr 1
  have e4 : 2 ^ (21 - k) * Q + 2 ^ (21 - (k + 1)) = 2 ^ (21 - (k + 1)) * (2 * Q + 1) := by
    rw [e, Nat.mul_add, Nat.mul_one, Nat.mul_assoc, Nat.mul_left_comm]
  rw [e4] at hm
  refine ⟨⟨by omega, Or.inr (by rw [← hm]; exact hle), ?_⟩, hm⟩
  rw [← e3]
  exact h3

theorem Bit.no {n : Int} {k Q : Nat} (hk : k < 21) (h : Bit n k Q) (m : Int) (hm : m = ((2 ^ (21 - k) * Q + 2 ^ (20 - k) : Nat) : Int)) (hlt : n < m * m * m) :
    Bit n (k + 1) (2 * Q) ∧ ((2 ^ (21 - k) * Q : Nat) : Int) = ((2 ^ (21 - (k + 1)) * (2 * Q) : Nat) : Int) := by
  obtain ⟨h1, h2, h3⟩ := h
  have e := two_half k hk
  have e2 : 20 - k = 21 - (k + 1) := by omega
  rw [e2] at hm
  have e4 : 2 ^ (21 - k) * Q + 2 ^ (21 - (k + 1)) = 2 ^ (21 - (k + 1)) * (2 * Q + 1) := by
    rw [e, Nat.mul_add, Nat.mul_one, Nat.mul_assoc, Nat.mul_left_comm]
  have e5 : 2 ^ (21 - k) * Q = 2 ^ (21 - (k + 1)) * (2 * Q) := by
    rw [e, Nat.mul_assoc, Nat.mul_left_comm]
  have e6 : 2 ^ (21 - k) * (Q + 1) = 2 ^ (21 - k) * Q + 2 * 2 ^ (21 - (k + 1)) := by rw [Nat.mul_add, Nat.mul_one, ← e]
  rw [e4] at hm
  refine ⟨⟨by omega, ?_, Or.inr (by rw [← hm]; exact hlt)⟩, by rw [e5]⟩
  rcases h2 with h2 | h2
  · exact Or.inl (by omega)
  · rw [← e5]; exact Or.inr h2

theorem Bit.root {n : Int} {Q : Nat} (h : Bit n 21 Q) : cbrtI n = Q := by
  obtain ⟨h1, h2, h3⟩ := h
  simp only [Nat.sub_self, Nat.pow_zero, Nat.one_mul] at h1 h2 h3
  refine cbrt_eq ⟨by omega, by omega, ?_, ?_⟩
  · rcases h2 with h2 | h2
    · exact Or.inl (by omega)
    · exact Or.inr h2
  · rcases h3 with h3 | h3
    · exact Or.inl (by omega)
    · refine Or.inr ?_
      simpa using h3

set_option maxHeartbeats 400000 in
theorem cbrt_walk (n : Int) (hn : -9223372036854775808 ≤ n ∧ n ≤ 9223372036854775807) (w : World) :
    Calls Try.prog 57 #[.int .i64 n] w fun e w' => e = .returned (.int .i64 (cbrtI n)) ∧ w' = w := by
  go_enter Try.func57, Try.ntmps57
  go_wp2
  go_loop [3, 6] (fun r i => ∃ (k Q : Nat) (q : Int), k ≤ 21 ∧ i = .int .i64 k ∧ r = .int .i64 q ∧ q = ((2 ^ (21 - k) * Q : Nat) : Int) ∧ Bit n k Q) (fun _ i => 21 - (intOf i).toNat)
  case atStart => exact ⟨0, 0, 0, by omega, rfl, rfl, by simp, by refine ⟨by decide, Or.inl rfl, Or.inl (by decide)⟩⟩
  case round =>
    obtain ⟨k, Q, q, hk, rfl, rfl, hq, hB⟩ := hrel
    have HB : Hid (Bit n k Q) := hB
    have HQ : Hid (q = ((2 ^ (21 - k) * Q : Nat) : Int)) := hq
    by_cases hlt : k < 21
    · obtain ⟨m, hm⟩ : ∃ m : Int, m = ((2 ^ (21 - k) * Q + 2 ^ (20 - k) : Nat) : Int) := ⟨_, rfl⟩
      have hor : bits .or .i64 q (wrap64 (2 ^ (20 - k))) = m := by rw [hq, hm]; exact bit_or k Q hlt hB.1
      have hb : 0 ≤ m ∧ m ≤ 2097151 := by
        have e := two_half k hlt
        have e2 : 20 - k = 21 - (k + 1) := by omega
        have e6 : 2 ^ (21 - k) * (Q + 1) = 2 ^ (21 - k) * Q + 2 * 2 ^ (21 - (k + 1)) := by rw [Nat.mul_add, Nat.mul_one, ← e]
        have hp : 0 < 2 ^ (21 - (k + 1)) := Nat.pow_pos (by omega)
        have := hB.1
        rw [hm, e2]
        omega
      have hc := cube_hi hb.1 hb.2
      have HM : Hid (m = ((2 ^ (21 - k) * Q + 2 ^ (20 - k) : Nat) : Int)) := hm
      clear hm hq hB
      go_wp2
      · go_round
        case rel =>
          obtain ⟨b1, b2⟩ := Bit.yes hlt HB.out m HM.out ‹_›
          exact ⟨k + 1, 2 * Q + 1, m, by omega, by go_num, rfl, b2, b1⟩
        case measure => simp [intOf]; omega
      · go_round
        case rel =>
          obtain ⟨b1, b2⟩ := Bit.no hlt HB.out m HM.out ‹_›
          exact ⟨k + 1, 2 * Q, q, by omega, by go_num, rfl, HQ.out.trans b2, b1⟩
        case measure => simp [intOf]; omega
    · clear hq hB
      go_wp2
      go_ret
      have hk21 : k = 21 := by omega
      refine ⟨ret_int ?_, rfl⟩
      have hB := HB.out
      have hQ := HQ.out
      subst hk21
      rw [hB.root, hQ]
      simp

theorem half_up (l h : Int) (h0 : 0 ≤ l) (h1 : l < h) (h2 : h ≤ 2097151) : l < (l + h + 1) / 2 ∧ (l + h + 1) / 2 ≤ h := by omega

set_option maxHeartbeats 400000 in
theorem rcbrt_walk (n : Int) (hn : -9223372036854775808 ≤ n ∧ n ≤ 9223372036854775807) (w : World) :
    Calls Try.prog 31 #[.int .i64 n] w fun e w' => e = .returned (.int .i64 (cbrtI n)) ∧ w' = w := by
  go_enter Try.func31, Try.ntmps31
  go_wp2
  go_loop [3, 4] (fun r i => ∃ (l h : Int), r = .int .i64 l ∧ i = .int .i64 h ∧ 0 ≤ l ∧ l ≤ h ∧ h ≤ 2097151 ∧ (l = 0 ∨ l * l * l ≤ n) ∧ (h = 2097151 ∨ n < (h + 1) * (h + 1) * (h + 1))) (fun r i => (intOf i - intOf r).toNat)
  case atStart => exact ⟨0, 2097151, rfl, rfl, by omega, by omega, by omega, Or.inl rfl, Or.inl rfl⟩
  case round =>
    obtain ⟨l, h, rfl, rfl, h0, h1, h2, h3, h4⟩ := hrel
    have H3 : Hid (l = 0 ∨ l * l * l ≤ n) := h3
    have H4 : Hid (h = 2097151 ∨ n < (h + 1) * (h + 1) * (h + 1)) := h4
    clear h3 h4
    by_cases hlt : l < h
    · obtain ⟨hm1, hm2⟩ := half_up l h h0 hlt h2
      have hc := cube_hi (a := (l + h + 1) / 2) (by omega) (by omega)
      go_wp2
      · go_round
        case rel => exact ⟨(l + h + 1) / 2, h, rfl, rfl, by omega, by omega, by omega, Or.inr ‹_›, H4.out⟩
        case measure => simp [intOf]; omega
      · go_round
        case rel => exact ⟨l, (l + h + 1) / 2 - 1, rfl, rfl, by omega, by omega, by omega, H3.out, Or.inr (by rw [Int.sub_add_cancel]; exact ‹_›)⟩
        case measure => simp [intOf]; omega
    · go_wp2
      go_ret
      have e : l = h := by omega
      refine ⟨ret_int (cbrt_eq ⟨h0, by omega, H3.out, ?_⟩).symm, rfl⟩
      rw [e]
      exact H4.out
end Go.Proofs.Ytikcjdoeoghoeaa
