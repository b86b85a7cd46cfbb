/- The contract of the document's own product by a number. -/
import Derived.Test.YtifgdpokmgibgaaSSteps
import Derived.Test.YtifgdpokmgibgaaSMulDiv
namespace Go.Proofs.Ytifgdpokmgibgaa
open Go.ChangeShapes Go.WideShapes Go.ChangeAt Go.RowKit
set_option linter.unusedVariables false

theorem low_bit (x : Int) (h0 : 0 ≤ x) (h1 : x ≤ 9223372036854775807) : bits .and .i64 x 1 = x % 2 := by
  obtain ⟨n, rfl⟩ := Int.eq_ofNat_of_zero_le h0
  have e1 : (BitVec.ofInt 64 (n : Int)).toNat = n := by
    rw [BitVec.ofInt_natCast, BitVec.toNat_ofNat]; exact Nat.mod_eq_of_lt (by omega)
  have e2 : (BitVec.ofInt 64 (1 : Int)).toNat = 1 := by decide
  show IntKind.i64.wrap ((BitVec.ofInt 64 (n : Int) &&& BitVec.ofInt 64 (1 : Int)).toNat : Int) = _
  rw [BitVec.toNat_and, e1, e2, Nat.and_one_is_mod]
  simp [IntKind.wrap, IntKind.bits, IntKind.signed]
  omega

theorem rmuldiv_bad (a b c : Int) (h : a < 0 ∨ b < 0 ∨ c ≤ 0) (w : World) :
    Calls Try.prog 26 #[.int .i64 a, .int .i64 b, .int .i64 c] w fun e w' => e = .returned (.tuple #[.int .i64 (mulDivI a b c), .int .i64 (mulDivE a b c)]) ∧ ∃ n, w' = w.drewN n := by
  have HI : Hid (mulDivI a b c = 0) := by unfold Hid mulDivI; rw [if_pos h]
  have HE : Hid (mulDivE a b c = 2) := by unfold Hid mulDivE; rw [if_pos h]
  by_cases c1 : a < 0
  · clear h
    go_enter Try.func26, Try.ntmps26
    go_wp2
    go_ret2
    exact ⟨ret_two HI.out.symm HE.out.symm, 0, rfl⟩
  by_cases c2 : b < 0
  · clear h
    go_enter Try.func26, Try.ntmps26
    go_wp2
    go_ret2
    exact ⟨ret_two HI.out.symm HE.out.symm, 0, rfl⟩
  · have c3 : c ≤ 0 := by omega
    clear h
    go_enter Try.func26, Try.ntmps26
    go_wp2
    go_ret2
    exact ⟨ret_two HI.out.symm HE.out.symm, 0, rfl⟩

set_option maxHeartbeats 1000000 in
theorem rmuldiv_good (a b c : Int) (ha : 0 ≤ a ∧ a ≤ 9223372036854775807) (hb : 0 ≤ b ∧ b ≤ 9223372036854775807) (hc : 1 ≤ c ∧ c ≤ 9223372036854775807) (w : World) :
    Calls Try.prog 26 #[.int .i64 a, .int .i64 b, .int .i64 c] w fun e w' => e = .returned (.tuple #[.int .i64 (mulDivI a b c), .int .i64 (mulDivE a b c)]) ∧ ∃ n, w' = w.drewN n := by
  have HE : Hid (mulDivE a b c = 0) := no_err ha.1 hb.1 hc.1
  have pb := Part.of_div b c hb.1 hc.1
  have bq0 := pb.q0
  have br0 := pb.r0
  have br1 := pb.r1
  have bq1 : b / c ≤ b := Int.ediv_le_self _ hb.1
  have PB : Hid (Part b c (b / c) (b % c)) := pb
  clear pb
  go_enter Try.func26, Try.ntmps26
  go_wp2
  go_quiet (fail)
  go_wp2
  go_loop [8, 9, 10, 13] (fun s t o i => ∃ (k : Nat) (q r : Int), k ≤ 63 ∧ i = .int .i64 ((k : Int) - 1) ∧ s = .int .u64 q ∧ t = .int .u64 r ∧ o = .bool false ∧ q ≤ 9223372036854775807 ∧ Part (a / 2 ^ k * b) c q r) (fun _ _ _ i => (intOf i + 1).toNat)
  case atStart =>
    have e : a / 2 ^ 63 = 0 := Int.ediv_eq_zero_of_lt ha.1 (by omega)
    exact ⟨63, 0, 0, by omega, rfl, rfl, rfl, rfl, by omega, by rw [e]; exact ⟨by omega, by omega, by omega, by omega⟩⟩
  case round =>
    obtain ⟨k, q, r, hk, rfl, rfl, rfl, rfl, hq, pr⟩ := hrel
    have q0 := pr.q0
    have r0 := pr.r0
    have r1 := pr.r1
    have PR : Hid (Part (a / 2 ^ k * b) c q r) := pr
    clear pr
    cases k with
    | zero =>
      have HI : Hid (mulDivI a b c = q) := by
        have := PR.out
        rw [Int.pow_zero, Int.ediv_one] at this
        exact this.whole hq ha.1 hb.1 hc.1
      go_wp2
      go_ret2
      exact ⟨ret_two HI.out.symm HE.out.symm, nq, rfl⟩
    | succ m =>
      obtain ⟨e1, hX0, hX1⟩ := halves a m ha.1
      obtain ⟨X, hX⟩ : ∃ X, a / 2 ^ m = X := ⟨_, rfl⟩
      rw [hX] at e1 hX0 hX1
      have PX : Hid (Part (X / 2 * b) c q r) := by have := PR.out; rw [e1] at this; exact this
      clear e1 PR
      rw [show (((m + 1 : Nat) : Int) - 1) = (m : Int) from by omega]
      by_cases cO : 4611686018427387904 ≤ q
      · have HI : Hid (mulDivI a b c = 9223372036854775807) := by
          have h5 := PX.out.twice_le hb.1
          by_cases c6 : 2 * r < c
          · exact (PX.out.twice c6).much h5 hX1 (by omega) ha.1 hb.1 hc.1
          · exact (PX.out.twice' (by omega)).much h5 hX1 (by omega) ha.1 hb.1 hc.1
        go_wp2
        all_goals (go_ret2; exact ⟨ret_two HI.out.symm HE.out.symm, nq, rfl⟩)
      · by_cases cR : c ≤ 2 * r
        · obtain ⟨q2, hq2⟩ : ∃ q2, 2 * q + 1 = q2 := ⟨_, rfl⟩
          obtain ⟨r2, hr2⟩ : ∃ r2, 2 * r - c = r2 := ⟨_, rfl⟩
          have p2 : Part (2 * (X / 2 * b)) c q2 r2 := by rw [← hq2, ← hr2]; exact PX.out.twice' cR
          have P2 : Hid (Part (2 * (X / 2 * b)) c q2 r2) := p2
          have u0 := p2.r0
          have u1 := p2.r1
          have u2 := p2.q0
          have u3 : q2 ≤ 9223372036854775807 := by omega
          clear p2
          by_cases cB : X % 2 = 1
          · have HX1 : Hid (X % 2 = 1) := cB
            have hb1 : (bits .and .i64 X 1 == 1) = true := by rw [low_bit X hX0 (by omega), cB]; rfl
            clear cB
            by_cases c4 : 9223372036854775807 - b / c < q2
            · have HI : Hid (mulDivI a b c = 9223372036854775807) := by
                have h5 := odd_eq (b := b) HX1.out
                by_cases c6 : r2 + b % c < c
                · exact (P2.out.plus PB.out c6).much (by omega) hX1 (by omega) ha.1 hb.1 hc.1
                · exact (P2.out.plus' PB.out (by omega)).much (by omega) hX1 (by omega) ha.1 hb.1 hc.1
              go_wp2
              all_goals (go_ret2; exact ⟨ret_two HI.out.symm HE.out.symm, nq, rfl⟩)
            · by_cases c5 : c ≤ r2 + b % c
              · have P3 : Hid (Part (X * b) c (q2 + b / c + 1) (r2 + b % c - c)) := by
                  unfold Hid; rw [← odd_eq HX1.out]; exact P2.out.plus' PB.out c5
                by_cases c6 : 9223372036854775807 < q2 + b / c + 1
                · have HI : Hid (mulDivI a b c = 9223372036854775807) := P3.out.much (Int.le_refl _) hX1 c6 ha.1 hb.1 hc.1
                  go_wp2
                  go_ret2
                  exact ⟨ret_two HI.out.symm HE.out.symm, nq, rfl⟩
                · go_wp2
                  go_round
                  case rel => exact ⟨m, _, _, by omega, rfl, rfl, rfl, rfl, by omega, by rw [hX]; exact P3.out⟩
                  case measure => simp [intOf]
              · have P3 : Hid (Part (X * b) c (q2 + b / c) (r2 + b % c)) := by
                  unfold Hid; rw [← odd_eq HX1.out]; exact P2.out.plus PB.out (by omega)
                go_wp2
                go_round
                case rel => exact ⟨m, _, _, by omega, rfl, rfl, rfl, rfl, by omega, by rw [hX]; exact P3.out⟩
                case measure => simp [intOf]
          · have HX0 : Hid (X % 2 = 0) := by unfold Hid; omega
            have hb0 : (bits .and .i64 X 1 == 1) = false := by rw [low_bit X hX0 (by omega), HX0.out]; rfl
            clear cB
            go_wp2
            go_round
            case rel => exact ⟨m, _, _, by omega, rfl, rfl, rfl, rfl, by omega, by rw [hX, ← even_eq HX0.out]; exact P2.out⟩
            case measure => simp [intOf]
        · obtain ⟨q2, hq2⟩ : ∃ q2, 2 * q = q2 := ⟨_, rfl⟩
          obtain ⟨r2, hr2⟩ : ∃ r2, 2 * r = r2 := ⟨_, rfl⟩
          have p2 : Part (2 * (X / 2 * b)) c q2 r2 := by rw [← hq2, ← hr2]; exact PX.out.twice (by omega)
          have P2 : Hid (Part (2 * (X / 2 * b)) c q2 r2) := p2
          have u0 := p2.r0
          have u1 := p2.r1
          have u2 := p2.q0
          have u3 : q2 ≤ 9223372036854775807 := by omega
          clear p2
          by_cases cB : X % 2 = 1
          · have HX1 : Hid (X % 2 = 1) := cB
            have hb1 : (bits .and .i64 X 1 == 1) = true := by rw [low_bit X hX0 (by omega), cB]; rfl
            clear cB
            by_cases c4 : 9223372036854775807 - b / c < q2
            · have HI : Hid (mulDivI a b c = 9223372036854775807) := by
                have h5 := odd_eq (b := b) HX1.out
                by_cases c6 : r2 + b % c < c
                · exact (P2.out.plus PB.out c6).much (by omega) hX1 (by omega) ha.1 hb.1 hc.1
                · exact (P2.out.plus' PB.out (by omega)).much (by omega) hX1 (by omega) ha.1 hb.1 hc.1
              go_wp2
              all_goals (go_ret2; exact ⟨ret_two HI.out.symm HE.out.symm, nq, rfl⟩)
            · by_cases c5 : c ≤ r2 + b % c
              · have P3 : Hid (Part (X * b) c (q2 + b / c + 1) (r2 + b % c - c)) := by
                  unfold Hid; rw [← odd_eq HX1.out]; exact P2.out.plus' PB.out c5
                by_cases c6 : 9223372036854775807 < q2 + b / c + 1
                · have HI : Hid (mulDivI a b c = 9223372036854775807) := P3.out.much (Int.le_refl _) hX1 c6 ha.1 hb.1 hc.1
                  go_wp2
                  go_ret2
                  exact ⟨ret_two HI.out.symm HE.out.symm, nq, rfl⟩
                · go_wp2
                  go_round
                  case rel => exact ⟨m, _, _, by omega, rfl, rfl, rfl, rfl, by omega, by rw [hX]; exact P3.out⟩
                  case measure => simp [intOf]
              · have P3 : Hid (Part (X * b) c (q2 + b / c) (r2 + b % c)) := by
                  unfold Hid; rw [← odd_eq HX1.out]; exact P2.out.plus PB.out (by omega)
                go_wp2
                go_round
                case rel => exact ⟨m, _, _, by omega, rfl, rfl, rfl, rfl, by omega, by rw [hX]; exact P3.out⟩
                case measure => simp [intOf]
          · have HX0 : Hid (X % 2 = 0) := by unfold Hid; omega
            have hb0 : (bits .and .i64 X 1 == 1) = false := by rw [low_bit X hX0 (by omega), HX0.out]; rfl
            clear cB
            go_wp2
            go_round
            case rel => exact ⟨m, _, _, by omega, rfl, rfl, rfl, rfl, by omega, by rw [hX, ← even_eq HX0.out]; exact P2.out⟩
            case measure => simp [intOf]

theorem rmuldiv_walk (a b c : Int) (ha : -9223372036854775808 ≤ a ∧ a ≤ 9223372036854775807) (hb : -9223372036854775808 ≤ b ∧ b ≤ 9223372036854775807) (hc : -9223372036854775808 ≤ c ∧ c ≤ 9223372036854775807) (w : World) :
    Calls Try.prog 26 #[.int .i64 a, .int .i64 b, .int .i64 c] w fun e w' => e = .returned (.tuple #[.int .i64 (mulDivI a b c), .int .i64 (mulDivE a b c)]) ∧ ∃ n, w' = w.drewN n := by
  by_cases h : a < 0 ∨ b < 0 ∨ c ≤ 0
  · exact rmuldiv_bad a b c h w
  · exact rmuldiv_good a b c (by omega) (by omega) (by omega) w
end Go.Proofs.Ytifgdpokmgibgaa
