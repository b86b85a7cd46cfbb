/- The contract of the division of two words by one. -/
import Derived.Test.YtifgdpokmgibgaaSLen
import Derived.Test.YtifgdpokmgibgaaSMul
import Derived.Test.YtifgdpokmgibgaaSDigit
import Derived.Deep.DeepCutAuto
import Derived.Deep.CutBlock
import Derived.Deep.LoopGhost
namespace Go.Proofs.Ytifgdpokmgibgaa
open Go.ChangeShapes Go.WideShapes Go.ChangeAt Go.RowKit
set_option linter.unusedVariables false

/-- Both sides are shifted until the divisor has all its bits. -/
theorem normal {hi lo y : Int} {n : Nat} (h0 : 1 ≤ hi) (h1 : hi < y) (hl : 0 ≤ lo ∧ lo < 18446744073709551616) (hL : Long y n) :
    ∃ Y U V, IntKind.u64.wrap (y * 2 ^ (64 - n)) = Y ∧ bits .or .u64 (IntKind.u64.wrap (hi * 2 ^ (64 - n))) (lo / 2 ^ (64 - (64 - n))) = U ∧ IntKind.u64.wrap (lo * 2 ^ (64 - n)) = V ∧
      9223372036854775808 ≤ Y ∧ Y < 18446744073709551616 ∧ 0 ≤ U ∧ U < Y ∧ 0 ≤ V ∧ V < 18446744073709551616 ∧ (U * 18446744073709551616 + V) / Y = (hi * 18446744073709551616 + lo) / y := by
  obtain ⟨n1, n2, l1, l2⟩ := hL
  have e : 64 - (64 - n) = n := by omega
  rw [e]
  have hST : (2 : Int) ^ n * 2 ^ (64 - n) = 18446744073709551616 := by
    rw [← Int.pow_add, show n + (64 - n) = 64 by omega]; rfl
  have hST1 : (2 : Int) ^ (n - 1) * 2 ^ (64 - n) = 9223372036854775808 := by
    rw [← Int.pow_add, show n - 1 + (64 - n) = 63 by omega]; rfl
  have hT : (1 : Int) ≤ 2 ^ (64 - n) := Int.pow_pos (by omega)
  have hS : (1 : Int) ≤ 2 ^ n := Int.pow_pos (by omega)
  have hor : ∀ b : Int, 0 ≤ b → b < 2 ^ (64 - n) → hi * 2 ^ (64 - n) < 18446744073709551616 → b < 18446744073709551616 → bits .or .u64 (hi * 2 ^ (64 - n)) b = hi * 2 ^ (64 - n) + b := by
    intro b b0 b1 b2 b3
    obtain ⟨B, rfl⟩ := Int.eq_ofNat_of_zero_le b0
    obtain ⟨H, rfl⟩ := Int.eq_ofNat_of_zero_le (show 0 ≤ hi by omega)
    have ec : (H : Int) * 2 ^ (64 - n) = ((2 ^ (64 - n) * H : Nat) : Int) := by rw [Nat.mul_comm]; simp
    have b1' : B < 2 ^ (64 - n) := by exact_mod_cast b1
    rw [ec] at b2 ⊢
    rw [bits_or_u64_nat _ _ (by omega) (by omega), ← Nat.two_pow_add_eq_or_of_lt b1' H]
    simp
  generalize hTe : (2 : Int) ^ (64 - n) = T at *
  generalize hSe : (2 : Int) ^ n = S at *
  generalize (2 : Int) ^ (n - 1) = S1 at *
  have y1 : y * T < S * T := Int.mul_lt_mul_of_pos_right l2 (by omega)
  have y2 : S1 * T ≤ y * T := Int.mul_le_mul_of_nonneg_right l1 (by omega)
  have q1 : 0 ≤ lo / S := Int.ediv_nonneg hl.1 (by omega)
  have q2 : lo / S < T := Int.ediv_lt_of_lt_mul (by omega) (by rw [Int.mul_comm T S]; omega)
  have d1 : lo = lo / S * S + lo % S := by have := Int.mul_ediv_add_emod lo S; rw [Int.mul_comm] at this; omega
  have m1 : 0 ≤ lo % S := Int.emod_nonneg _ (by omega)
  have m2 : lo % S < S := Int.emod_lt_of_pos _ (by omega)
  have a1 : (hi + 1) * T ≤ y * T := Int.mul_le_mul_of_nonneg_right (by omega) (by omega)
  have a2 : 0 ≤ hi * T := Int.mul_nonneg (by omega) (by omega)
  rw [Int.add_mul] at a1
  have v1 : lo * T = lo / S * 18446744073709551616 + lo % S * T := by
    have := congrArg (· * T) d1
    rw [Int.add_mul, Int.mul_assoc, hST] at this
    exact this
  have v2 : lo % S * T < S * T := Int.mul_lt_mul_of_pos_right m2 (by omega)
  have v3 : 0 ≤ lo % S * T := Int.mul_nonneg m1 (by omega)
  have e1 : IntKind.u64.wrap (y * T) = y * T := by rw [IntKind.wrap_u64]; omega
  have e2 : IntKind.u64.wrap (hi * T) = hi * T := by rw [IntKind.wrap_u64]; omega
  have e3 : IntKind.u64.wrap (lo * T) = lo % S * T := by rw [IntKind.wrap_u64]; omega
  have e4 := hor (lo / S) q1 q2 (by omega) (by omega)
  refine ⟨y * T, hi * T + lo / S, lo % S * T, e1, by rw [e2, e4], e3, by omega, by omega, by omega, by omega, v3, by omega, ?_⟩
  have e5 : (hi * T + lo / S) * 18446744073709551616 + lo % S * T = (hi * 18446744073709551616 + lo) * T := by
    rw [Int.add_mul (hi * 18446744073709551616), v1, Int.mul_right_comm]
    omega
  rw [e5]
  exact Int.mul_ediv_mul_of_pos_left _ _ (by omega)

/-- What the code reckons modulo 2^64 for what is left. -/
theorem left_wrap {u v p : Int} (h0 : 0 ≤ u * 4294967296 + v - p) (h1 : u * 4294967296 + v - p < 18446744073709551616) :
    IntKind.u64.wrap (IntKind.u64.wrap (IntKind.u64.wrap (u * 4294967296) + v) - IntKind.u64.wrap p) = u * 4294967296 + v - p := by
  simp only [IntKind.wrap_u64]
  omega

set_option maxHeartbeats 1000000 in
theorem div_walk (hi lo y : Int) (h0 : 1 ≤ hi) (h1 : hi < y) (hy : y < 18446744073709551616) (hl : 0 ≤ lo ∧ lo < 18446744073709551616) (w : World) :
    Calls Try.prog 32 #[.int .u64 hi, .int .u64 lo, .int .u64 y] w fun e w' => (∃ r, e = .returned (.tuple #[.int .u64 ((hi * 18446744073709551616 + lo) / y), .int .u64 r])) ∧ w' = w := by
  go_enter Try.func32, Try.ntmps32
  go_wp2_with fail
  refine (lead_walk y (by omega) hy _).mono ?_
  rintro e w' ⟨⟨n, rfl, hL⟩, rfl⟩
  have hn1 := hL.1
  have hn2 := hL.2.1
  obtain ⟨Y, U, V, eY, eU, eV, hY1, hY2, hU1, hU2, hV1, hV2, hQ⟩ := normal h0 h1 hl hL
  have HQ : Hid ((U * 18446744073709551616 + V) / Y = (hi * 18446744073709551616 + lo) / y) := hQ
  clear hL hQ
  obtain ⟨d, hd⟩ : ∃ d, Y / 4294967296 = d := ⟨_, rfl⟩
  obtain ⟨e, he⟩ : ∃ e, Y % 4294967296 = e := ⟨_, rfl⟩
  obtain ⟨v, hv⟩ : ∃ v, V / 4294967296 = v := ⟨_, rfl⟩
  obtain ⟨x, hx⟩ : ∃ x, V % 4294967296 = x := ⟨_, rfl⟩
  have he' := low_half Y (by omega) hY2
  have hx' := low_half V hV1 hV2
  rw [he] at he'
  rw [hx] at hx'
  have kn : Known U v d e := ⟨by omega, by omega, by omega, by omega, by omega, by omega, hU1, by omega⟩
  have EY : Hid (Y = d * 4294967296 + e) := by unfold Hid; omega
  have EV : Hid (V = v * 4294967296 + x) := by unfold Hid; omega
  have x0 : 0 ≤ x ∧ x ≤ 4294967295 := by omega
  have g0 := kn.first
  have s0 := kn.small
  have g1 := g0.q0
  have g2 := g0.q1
  have g3 := g0.r0
  have g4 : 0 ≤ U / d * d := Int.mul_nonneg g1 (by have := kn.d0; omega)
  have G0 : Hid (Guess U v d e (U / d) (U - U / d * d)) := g0
  have k1 := kn.d0
  have k2 := kn.d1
  have k3 := kn.e0
  have k4 := kn.e1
  have k5 := kn.v0
  have k6 := kn.v1
  have KN : Hid (Known U v d e) := kn
  clear g0 he hx kn
  obtain ⟨E, hE⟩ : ∃ E, (U * 4294967296 + v) / (d * 4294967296 + e) = E := ⟨_, rfl⟩
  have HE : Hid ((U * 4294967296 + v) / (d * 4294967296 + e) = E) := hE
  clear hE
  go_upto_block 0 with fail
  go_cut [15, 16] (fun s t wx => wx = w' ∧ s = .int .u64 E ∧ ∃ r, t = .int .u64 r)
  case first =>
    go_wp2_with fail
    go_loopg [15, 16] (U / d).toNat (fun g s t wx => wx = w' ∧ ∃ q r : Int, s = .int .u64 q ∧ t = .int .u64 r ∧ g = q.toNat ∧ Guess U v d e q r ∧ r < 4294967296)
    case atStart => exact ⟨rfl, (U / d), _, rfl, rfl, rfl, G0.out, s0⟩
    case round =>
      obtain ⟨rfl, q, r, rfl, rfl, rfl, gs, hr⟩ := hrel
      have q0 := gs.q0
      have q1 := gs.q1
      have r0 := gs.r0
      have GS : Hid (Guess U v d e q r) := gs
      clear gs
      by_cases c1 : 4294967296 ≤ q
      · obtain ⟨l1, l2, l3⟩ := GS.out.less KN.out (Or.inl c1)
        have G3 : Hid (Guess U v d e (q - 1) (r + d)) := l3
        clear l3
        by_cases c2 : 4294967296 ≤ r + d
        · go_wp2
          go_meet
          exact ⟨rfl, by rw [← G3.out.over KN.out l2 c2]; exact congrArg _ HE.out, _, rfl⟩
        · go_wp2
          go_roundg (q - 1).toNat
          case measure => omega
          case rel => exact ⟨rfl, q - 1, r + d, rfl, rfl, rfl, G3.out, by omega⟩
      · have qe := halves_bd (a := q) (b := e) (by omega) (by omega)
        by_cases c3 : 4294967296 * r + v < q * e
        · obtain ⟨l1, l2, l3⟩ := GS.out.less KN.out (Or.inr c3)
          have G3 : Hid (Guess U v d e (q - 1) (r + d)) := l3
          clear l3
          by_cases c2 : 4294967296 ≤ r + d
          · go_wp2
            go_meet
            exact ⟨rfl, by rw [← G3.out.over KN.out l2 c2]; exact congrArg _ HE.out, _, rfl⟩
          · go_wp2
            go_roundg (q - 1).toNat
            case measure => omega
            case rel => exact ⟨rfl, q - 1, r + d, rfl, rfl, rfl, G3.out, by omega⟩
        · go_wp2
          go_meet
          exact ⟨rfl, by rw [← GS.out.exact KN.out (by omega)]; exact congrArg _ HE.out, _, rfl⟩
  case rest =>
    obtain ⟨rfl, rfl, r1, rfl⟩ := hcut
    clear g1 g2 g3 g4 s0 G0
    obtain ⟨f1, f2, f3, f4⟩ := KN.out.fits
    rw [HE.out] at f1 f2 f3 f4
    rw [← EY.out] at f3 f4
    obtain ⟨L, hL⟩ : ∃ L, U * 4294967296 + v - E * Y = L := ⟨_, rfl⟩
    have hw := left_wrap f3 (by omega)
    rw [hL] at hw f3 f4
    have HL : Hid (U * 4294967296 + v - E * Y = L) := hL
    clear hL
    have km : Known L x d e := ⟨k1, k2, k3, k4, x0.1, x0.2, f3, by have := EY.out; omega⟩
    have KM : Hid (Known L x d e) := km
    have F0 : Hid (Guess L x d e (L / d) (L - L / d * d)) := km.first
    have f5 := km.small
    have g1 := km.first.q0
    have g2 := km.first.q1
    have g3 := km.first.r0
    have g4 : 0 ≤ L / d * d := Int.mul_nonneg g1 (by omega)
    clear km
    obtain ⟨F, hF⟩ : ∃ F, (L * 4294967296 + x) / (d * 4294967296 + e) = F := ⟨_, rfl⟩
    have HF : Hid ((L * 4294967296 + x) / (d * 4294967296 + e) = F) := hF
    clear hF
    go_upto_block 2 with fail
    go_cut [16, 18] (fun t s wx => wx = wc ∧ s = .int .u64 F ∧ ∃ r, t = .int .u64 r)
    case first =>
      go_wp2_with fail
      go_loopg [18, 16] (L / d).toNat (fun g s t wx => wx = wc ∧ ∃ q r : Int, s = .int .u64 q ∧ t = .int .u64 r ∧ g = q.toNat ∧ Guess L x d e q r ∧ r < 4294967296)
      case atStart => exact ⟨rfl, (L / d), _, rfl, rfl, rfl, F0.out, f5⟩
      case round =>
        obtain ⟨rfl, q, r, rfl, rfl, rfl, gs, hr⟩ := hrel
        have q0 := gs.q0
        have q1 := gs.q1
        have r0 := gs.r0
        have GS : Hid (Guess L x d e q r) := gs
        clear gs
        by_cases c1 : 4294967296 ≤ q
        · obtain ⟨l1, l2, l3⟩ := GS.out.less KM.out (Or.inl c1)
          have G3 : Hid (Guess L x d e (q - 1) (r + d)) := l3
          clear l3
          by_cases c2 : 4294967296 ≤ r + d
          · go_wp2
            go_meet
            exact ⟨rfl, by rw [← G3.out.over KM.out l2 c2]; exact congrArg _ HF.out, _, rfl⟩
          · go_wp2
            go_roundg (q - 1).toNat
            case measure => omega
            case rel => exact ⟨rfl, q - 1, r + d, rfl, rfl, rfl, G3.out, by omega⟩
        · have qe := halves_bd (a := q) (b := e) (by omega) (by omega)
          by_cases c3 : 4294967296 * r + x < q * e
          · obtain ⟨l1, l2, l3⟩ := GS.out.less KM.out (Or.inr c3)
            have G3 : Hid (Guess L x d e (q - 1) (r + d)) := l3
            clear l3
            by_cases c2 : 4294967296 ≤ r + d
            · go_wp2
              go_meet
              exact ⟨rfl, by rw [← G3.out.over KM.out l2 c2]; exact congrArg _ HF.out, _, rfl⟩
            · go_wp2
              go_roundg (q - 1).toNat
              case measure => omega
              case rel => exact ⟨rfl, q - 1, r + d, rfl, rfl, rfl, G3.out, by omega⟩
          · go_wp2
            go_meet
            exact ⟨rfl, by rw [← GS.out.exact KM.out (by omega)]; exact congrArg _ HF.out, _, rfl⟩
    case rest =>
      obtain ⟨rfl, rfl, r2, rfl⟩ := hcut
      clear g1 g2 g3 g4 f5 F0
      obtain ⟨p1, p2, _, _⟩ := KM.out.fits
      rw [HF.out] at p1 p2
      go_wp2
      go_ret2
      refine ⟨⟨_, ret_two ?_ rfl⟩, rfl⟩
      have hD : 0 < d * 4294967296 + e := by omega
      have hE := HE.out
      have hF := HF.out
      have hL := HL.out
      rw [EY.out] at hL
      have key := two_digits (u := U) (v := v) (x := x) hD hL.symm
      rw [hF] at key
      rw [← HQ.out, EV.out, EY.out, ← key, Int.add_assoc]
end Go.Proofs.Ytifgdpokmgibgaa
