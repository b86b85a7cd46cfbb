/- The walk of TimerTwo. -/
import Derived.Test.YtdmkbnbdbhggkaaLaterWalk
import Derived.Test.YtdmkbnbdbhggkaaRef
namespace Go.Proofs.Ytdmkbnbdbhggkaa
open Go.ChangeShapes Go.WideShapes Go.ChangeAt Go.RowKit Go.Shelf
set_option linter.unusedVariables false

theorem check_ok (A : Option Addr) (cap : Nat) (ts : List Tm) (w : World) (hT : TimsAt w A ts) (n : Nat) (hn : ts.length = n) (e0 : Int) (he : errI ts = e0) :
    Calls Try.prog 16 #[.slice A n cap] w fun e W' => e = .returned (.int .i64 e0) ∧ Below w.heap.size w W' := by
  subst hn; subst he; exact check_any A cap ts w hT
theorem same_ok (A B : Option Addr) (c d : Nat) (xs : List Tm) (w : World) (hA : TimsAt w A xs) (hB : TimsAt w B xs) (n : Nat) (hn : xs.length = n) :
    Calls Try.prog 15 #[.slice A n c, .slice B n d] w fun e w' => e = .returned (.bool true) ∧ Below w.heap.size w w' := by
  subst hn
  refine (same_any A B c d xs w hA hB).mono ?_
  rintro e w' ⟨he, k, rfl⟩
  exact ⟨he, rfl, rfl, rfl, Nat.le_refl _, fun _ _ => rfl⟩

set_option maxRecDepth 100000 in
set_option maxHeartbeats 2000000 in
theorem two_walk (A : Option Addr) (cap : Nat) (ts : List Tm) (a b : Int) (w : World) (hT : TimsAt w A ts) :
    Calls Try.prog 7 #[.slice A ts.length cap, .int .i64 a, .int .i64 b] w fun e w' => e = .returned (.bool true) ∧ Below w.heap.size w w' := by
  obtain ⟨n, hn⟩ : ∃ n, ts.length = n := ⟨_, rfl⟩
  rw [hn]
  have HT : Hid (TimsAt w A ts) := hT
  have HN : Hid (ts.length = n) := hn
  clear hT hn
  cases hc : chk 0 ts with
  | false =>
    have c1 := check_ok A cap ts w HT.out n HN.out 40 (by simp [errI, hc])
    clear hc
    go_enter Try.func7, Try.ntmps7
    go_wp2_with (first | (go_at_call 16; refine c1.mono ?_; rintro e w1 ⟨rfl, hB1⟩) | (go_at_call 10; refine (heads_any _).mono ?_; rintro e w3 ⟨rfl, hB3⟩))
    go_ret
    exact ⟨rfl, below_next hB1 hB3⟩
  | true =>
    have c1 := check_ok A cap ts w HT.out n HN.out 0 (by simp [errI, hc])
    by_cases hok : timeB a = true ∧ timeB b = true
    · have hr : (0 ≤ a ∧ a ≤ 1125899906842624) ∧ (0 ≤ b ∧ b ≤ 1125899906842624) := by
        have := hok.1; have := hok.2; simp [timeB] at *; omega
      have hx1 := chk_set (k := 3) (t := a) hc rfl hok.1
      have hy1 := chk_set (k := 5) (t := b) hc rfl hok.2
      have htwo := two_kinds (l := ts) a b
      have hl1 : 1 ≤ (setI ts 3 a).length := by rw [set_len hc]; omega
      have hl2 : 2 ≤ (setI (setI ts 3 a) 5 b).length := by
        have h3 : (3, a) ∈ wo (setI ts 3 a) 5 := by
          unfold wo
          exact List.mem_filter.2 ⟨mem_set.2 (.inl rfl), by simp⟩
        have := List.length_pos_of_mem h3
        rw [set_len hx1]; omega
      have HC : Hid (chk 0 ts = true ∧ timeB a = true ∧ timeB b = true ∧ chk 0 (setI ts 3 a) = true ∧ chk 0 (setI ts 5 b) = true) := ⟨hc, hok.1, hok.2, hx1, hy1⟩
      obtain ⟨m, hm⟩ : ∃ m, (setI (setI ts 3 a) 5 b).length = m := ⟨_, rfl⟩
      rw [hm] at hl2
      have HM : Hid ((setI (setI ts 3 a) 5 b).length = m ∧ setI (setI ts 3 a) 5 b = setI (setI ts 5 b) 3 a) := ⟨hm, htwo⟩
      have hl2' : (2 : Int) ≤ (m : Int) := by omega
      clear hc hok hx1 hy1 htwo hl1 hm
      go_enter Try.func7, Try.ntmps7
      go_wp2_with fail
      refine c1.mono ?_
      rintro e w1 ⟨rfl, hB1⟩
      have c2 := set_ok A cap ts 3 a w1 (HT.out.later hB1) HC.out.1 rfl HC.out.2.1 _ n HN.out rfl
      have HB1 : Hid (Below w.heap.size w w1) := hB1
      clear c1 hB1
      go_wp2_with fail
      refine c2.mono ?_
      rintro e w2 ⟨va2, vc2, rfl, hT2, hB2⟩
      have HB2 : Hid (Below w.heap.size w w2) := below_next HB1.out hB2
      have c3 := set_ok va2 vc2 (setI ts 3 a) 5 b w2 hT2 HC.out.2.2.2.1 rfl HC.out.2.2.1 m _ rfl HM.out.1
      clear c2 hB2 hT2 HB1
      go_wp2_with fail
      refine c3.mono ?_
      rintro e w3 ⟨va3, vc3, rfl, hT3, hB3⟩
      have HB3 : Hid (Below w.heap.size w w3) := below_next HB2.out hB3
      have HT3 : Hid (TimsAt w3 va3 (setI (setI ts 3 a) 5 b)) := hT3
      have c4 := set_ok A cap ts 5 b w3 (HT.out.later HB3.out) HC.out.1 rfl HC.out.2.2.1 _ n HN.out rfl
      clear c3 hB3 hT3 HB2
      go_wp2_with fail
      refine c4.mono ?_
      rintro e w4 ⟨va4, vc4, rfl, hT4, hB4⟩
      have HB4 : Hid (Below w.heap.size w w4) := below_next HB3.out hB4
      have HT4 : Hid (TimsAt w4 va3 (setI (setI ts 3 a) 5 b)) := HT3.out.later hB4
      have c5 := set_ok va4 vc4 (setI ts 5 b) 3 a w4 hT4 HC.out.2.2.2.2 rfl HC.out.2.1 m _ rfl (by rw [← HM.out.2]; exact HM.out.1)
      clear c4 hB4 hT4 HB3 HT3
      go_wp2_with fail
      refine c5.mono ?_
      rintro e w5 ⟨va5, vc5, rfl, hT5, hB5⟩
      have HB5 : Hid (Below w.heap.size w w5) := below_next HB4.out hB5
      have c6 := same_ok va3 va5 vc3 vc5 (setI (setI ts 3 a) 5 b) w5 (HT4.out.later hB5) (by rw [HM.out.2]; exact hT5) m HM.out.1
      clear c5 hB5 hT5 HB4 HT4
      go_wp2_with (first | (go_at_call 15; refine c6.mono ?_; rintro e w6 ⟨rfl, hB6⟩) | (go_at_call 10; refine (heads_any _).mono ?_; rintro e w7 ⟨rfl, hB7⟩))
      go_ret
      exact ⟨rfl, below_next (below_next HB5.out hB6) hB7⟩
    · have hr : a < 0 ∨ b < 0 ∨ 1125899906842624 < a ∨ 1125899906842624 < b := by
        simp [timeB] at hok; omega
      clear hok hc
      go_enter Try.func7, Try.ntmps7
      by_cases h1 : a < 0
      · go_wp2_with (first | (go_at_call 16; refine c1.mono ?_; rintro e w1 ⟨rfl, hB1⟩) | (go_at_call 10; refine (heads_any _).mono ?_; rintro e w3 ⟨rfl, hB3⟩))
        go_ret
        exact ⟨rfl, below_next hB1 hB3⟩
      · by_cases h2 : b < 0
        · go_wp2_with (first | (go_at_call 16; refine c1.mono ?_; rintro e w1 ⟨rfl, hB1⟩) | (go_at_call 10; refine (heads_any _).mono ?_; rintro e w3 ⟨rfl, hB3⟩))
          go_ret
          exact ⟨rfl, below_next hB1 hB3⟩
        · by_cases h3 : 1125899906842624 < a
          · go_wp2_with (first | (go_at_call 16; refine c1.mono ?_; rintro e w1 ⟨rfl, hB1⟩) | (go_at_call 10; refine (heads_any _).mono ?_; rintro e w3 ⟨rfl, hB3⟩))
            go_ret
            exact ⟨rfl, below_next hB1 hB3⟩
          · have h4 : 1125899906842624 < b := by omega
            go_wp2_with (first | (go_at_call 16; refine c1.mono ?_; rintro e w1 ⟨rfl, hB1⟩) | (go_at_call 10; refine (heads_any _).mono ?_; rintro e w3 ⟨rfl, hB3⟩))
            go_ret
            exact ⟨rfl, below_next hB1 hB3⟩
end Go.Proofs.Ytdmkbnbdbhggkaa
