/- The walk of NetAges. -/
import Derived.Test.YtkbgpbhlcmainaaHeads
namespace Go.Proofs.Ytkbgpbhlcmainaa
open Go.ChangeShapes Go.WideShapes Go.ChangeAt Go.RowKit
set_option linter.unusedVariables false

set_option maxRecDepth 100000 in
set_option maxHeartbeats 2000000 in
theorem ages_walk (A : Option Addr) (n c : Nat) (l : List Dg) (now more : Int) (w : World) (hD : DatsAt w A n c l) (hn : I64 now) (hm : I64 more) :
    Calls Try.prog 3 #[.slice A n c, .int .i64 now, .int .i64 more] w fun e w' => e = .returned (.bool true) ∧ Below w.heap.size w w' := by
  have hr := hD.reach
  unfold I64 at hn hm
  rcases (show now < 0 ∨ (0 ≤ now ∧ more < 0) ∨ (0 ≤ now ∧ 0 ≤ more ∧ 1099511627776 < now) ∨ (0 ≤ now ∧ 0 ≤ more ∧ now ≤ 1099511627776 ∧ 1099511627776 < more) ∨ (0 ≤ now ∧ 0 ≤ more ∧ now ≤ 1099511627776 ∧ more ≤ 1099511627776) from by omega) with h | ⟨h, h2⟩ | ⟨h, h2, h3⟩ | ⟨h, h2, h3, h4⟩ | ⟨h, h2, h3, h4⟩
  case inr.inr.inr.inr =>
    have HD : Hid (DatsAt w A n c l) := hD
    clear hD hn hm
    go_enter Try.func3, Try.ntmps3
    go_wp2_with fail
    go_loopw [7] (fun vi wr => ∃ (i : Nat), vi = .int .i64 i ∧ i ≤ n ∧ wr = w ∧ Hid (∀ x ∈ l.take i, 0 ≤ x.2 ∧ x.2 ≤ now))
      (fun vi _ => n - (intOf vi).toNat)
    case atStart => exact ⟨0, rfl, Nat.zero_le _, rfl, fun x hx => by simp at hx⟩
    case round =>
      obtain ⟨i, rfl, hin, rfl, HA⟩ := hrel
      by_cases hlt : i < n
      · obtain ⟨b, o, x, rfl, hx, hok, hc0, hc1⟩ := HD.out.get i hlt
        have hlt' : (i : Int) < (n : Int) := by omega
        rcases (show x.t < 0 ∨ (0 ≤ x.t ∧ now < x.t) ∨ (0 ≤ x.t ∧ x.t ≤ now) from by omega) with g | ⟨g, g2⟩ | ⟨g, g2⟩
        · clear hx hok hc0
          go_wp2_with fail
          refine (heads_any _).mono ?_
          rintro e w1 ⟨rfl, hB1⟩
          go_wp2_with fail
          go_ret
          exact ⟨rfl, hB1⟩
        · clear hx hok hc0
          go_wp2_with fail
          refine (heads_any _).mono ?_
          rintro e w1 ⟨rfl, hB1⟩
          go_wp2_with fail
          go_ret
          exact ⟨rfl, hB1⟩
        · have HA' : Hid (∀ x ∈ l.take (i + 1), 0 ≤ x.2 ∧ x.2 ≤ now) := fun y hy => by
            rw [take_snoc (by rw [HD.out.len]; exact hlt) hx] at hy
            rcases List.mem_append.1 hy with hy | hy
            · exact HA.out y hy
            · simp at hy; subst hy; exact ⟨g, g2⟩
          clear hx hok hc0
          go_wp2_with fail
          go_roundw
          case rel => exact ⟨i + 1, by go_num, by omega, by first | rfl | trivial, HA'.out⟩
          case measure => simp [intOf]; omega
      · obtain rfl : i = n := by omega
        have hA : ∀ x ∈ l, 0 ≤ x.2 ∧ x.2 ≤ now := by
          have := HA.out
          rw [take_all HD.out] at this
          exact this
        have c1 := oldest_any A i c l now wr HD.out (by unfold I64; omega)
        have hbd := old_bd ⟨h, h3⟩ hA
        obtain ⟨a, ha⟩ : ∃ a, oldI l now = a := ⟨_, rfl⟩
        obtain ⟨b, hb⟩ : ∃ b, oldI l (now + more) = b := ⟨_, rfl⟩
        have hlen := HD.out.len
        have hz : i = 0 → a = 0 ∧ b = 0 := fun h0 => by
          have : l = [] := List.eq_nil_of_length_eq_zero (by omega)
          rw [← ha, ← hb, this]
          exact ⟨old_nil _, old_nil _⟩
        have hp : 0 < i → b = a + more := fun h0 => by
          rw [← ha, ← hb]
          exact ages ⟨h, h3⟩ ⟨h2, h4⟩ (fun e => by rw [e] at hlen; simp at hlen; omega) hA
        rw [ha] at c1 hbd
        have HB : Hid (oldI l (now + more) = b) := hb
        have hwr : IntKind.i64.wrap (now + more) = now + more := by rw [IntKind.wrap_i64]; omega
        have hwa : IntKind.i64.wrap (a + more) = a + more := by rw [IntKind.wrap_i64]; omega
        clear hA HA ha hb hlen hin hlt
        go_wp2_with fail
        refine c1.mono ?_
        rintro e w1 ⟨rfl, hB1⟩
        have c2 := oldest_any A i c l (now + more) w1 (HD.out.later hB1) (by unfold I64; omega)
        rw [HB.out] at c2
        have HB1 : Hid (Below wr.heap.size wr w1) := hB1
        clear c1 hB1
        go_wp2_with fail
        refine c2.mono ?_
        rintro e w2 ⟨rfl, hB2⟩
        have HB2 : Hid (Below wr.heap.size wr w2) := Below.on HB1.out hB2
        clear c2 hB2
        by_cases h0 : i = 0
        · subst h0
          obtain ⟨rfl, rfl⟩ := hz rfl
          clear hz hp
          go_wp2_with fail
          refine (heads_any _).mono ?_
          rintro e w3 ⟨rfl, hB3⟩
          go_wp2_with fail
          go_ret
          exact ⟨rfl, Below.on HB2.out hB3⟩
        · have hi0 : 0 < (i : Int) := by omega
          have hi1 : (i == 0) = false := by simpa using h0
          have hi2 : ((i : Int) == 0) = false := by simp; omega
          obtain rfl := hp (by omega)
          clear hz hp
          go_wp2_with fail
          refine (heads_any _).mono ?_
          rintro e w3 ⟨rfl, hB3⟩
          go_wp2_with fail
          go_ret
          exact ⟨rfl, Below.on HB2.out hB3⟩
  all_goals (
    clear hD
    go_enter Try.func3, Try.ntmps3
    go_wp2_with fail
    refine (heads_any _).mono ?_
    rintro e w1 ⟨rfl, hB1⟩
    go_wp2_with fail
    go_ret
    exact ⟨rfl, hB1⟩)
end Go.Proofs.Ytkbgpbhlcmainaa
