/- The walk of PrrBegins. -/
import Derived.Test.YtdfgdnpokjmjhaaOpen
import Derived.Test.YtdfgdnpokjmjhaaPlain2
namespace Go.Proofs.Ytdfgdnpokjmjhaa
open Go.ChangeShapes Go.WideShapes Go.ChangeAt Go.RowKit
set_option linter.unusedVariables false


set_option maxRecDepth 100000 in
set_option maxHeartbeats 4000000 in
theorem beg_a (fl n s m : Int) (w : World)  (k1 : ∀ W, Calls Try.prog 11 #[.int .i64 fl] W fun e w' => e = .returned (.tuple #[.agg #[.int .i64 0, .int .i64 0, .int .i64 0], .int .i64 2]) ∧ Below W.heap.size W w') : Calls Try.prog 4 #[.int .i64 fl, .int .i64 n, .int .i64 s, .int .i64 m] w fun e w' => e = .returned (.bool true) ∧ Below w.heap.size w w' := by
  have kh := heads_any
  go_enter Try.func4, Try.ntmps4
  go_wp2_with fail
  refine (k1 _).mono ?_
  rintro e w1 ⟨rfl, hB1⟩
  have HX1 : Hid (Below w.heap.size w (w1.alloc (.cells #[.int .i64 0, .int .i64 0, .int .i64 0] 23))) := below_more hB1 _
  clear hB1 k1
  go_wp2_with fail
  refine (kh _).mono ?_
  rintro e wz ⟨rfl, hBz⟩
  go_wp2_with fail
  go_ret
  exact ⟨rfl, Below.on HX1.out hBz⟩

set_option maxRecDepth 100000 in
set_option maxHeartbeats 4000000 in
theorem beg_b (fl n s m : Int) (w : World) (h : fl < 1) (k1 : ∀ W, Calls Try.prog 11 #[.int .i64 fl] W fun e w' => e = .returned (.tuple #[.agg #[.int .i64 0, .int .i64 0, .int .i64 1], .int .i64 0]) ∧ Below W.heap.size W w') : Calls Try.prog 4 #[.int .i64 fl, .int .i64 n, .int .i64 s, .int .i64 m] w fun e w' => e = .returned (.bool true) ∧ Below w.heap.size w w' := by
  have kh := heads_any
  go_enter Try.func4, Try.ntmps4
  go_wp2_with fail
  refine (k1 _).mono ?_
  rintro e w1 ⟨rfl, hB1⟩
  have HX1 : Hid (Below w.heap.size w (w1.alloc (.cells #[.int .i64 0, .int .i64 0, .int .i64 1] 23))) := below_more hB1 _
  clear hB1 k1
  go_wp2_with fail
  refine (kh _).mono ?_
  rintro e wz ⟨rfl, hBz⟩
  go_wp2_with fail
  go_ret
  exact ⟨rfl, Below.on HX1.out hBz⟩

set_option maxRecDepth 100000 in
set_option maxHeartbeats 4000000 in
theorem beg_c (fl n s m : Int) (w : World) (h : 1 ≤ fl ∧ fl < s) (k1 : ∀ W, Calls Try.prog 11 #[.int .i64 fl] W fun e w' => e = .returned (.tuple #[.agg #[.int .i64 0, .int .i64 0, .int .i64 fl], .int .i64 0]) ∧ Below W.heap.size W w') : Calls Try.prog 4 #[.int .i64 fl, .int .i64 n, .int .i64 s, .int .i64 m] w fun e w' => e = .returned (.bool true) ∧ Below w.heap.size w w' := by
  have kh := heads_any
  go_enter Try.func4, Try.ntmps4
  go_wp2_with fail
  refine (k1 _).mono ?_
  rintro e w1 ⟨rfl, hB1⟩
  have HX1 : Hid (Below w.heap.size w (w1.alloc (.cells #[.int .i64 0, .int .i64 0, .int .i64 fl] 23))) := below_more hB1 _
  clear hB1 k1
  go_wp2_with fail
  refine (kh _).mono ?_
  rintro e wz ⟨rfl, hBz⟩
  go_wp2_with fail
  go_ret
  exact ⟨rfl, Below.on HX1.out hBz⟩

set_option maxRecDepth 100000 in
set_option maxHeartbeats 4000000 in
theorem beg_d (fl n s m : Int) (w : World) (hf : 1 ≤ fl ∧ s ≤ fl)  (k1 : ∀ W, Calls Try.prog 11 #[.int .i64 fl] W fun e w' => e = .returned (.tuple #[.agg #[.int .i64 0, .int .i64 0, .int .i64 fl], .int .i64 0]) ∧ Below W.heap.size W w')
    (k2 : ∀ W, Calls Try.prog 9 #[.agg #[.int .i64 0, .int .i64 0, .int .i64 fl], .int .i64 n, .int .i64 fl, .int .i64 s, .int .i64 m, .bool true] W fun e w' => e = .returned (.tuple #[.agg #[.int .i64 0, .int .i64 0, .int .i64 0], .int .i64 0, .int .i64 2]) ∧ Below W.heap.size W w') : Calls Try.prog 4 #[.int .i64 fl, .int .i64 n, .int .i64 s, .int .i64 m] w fun e w' => e = .returned (.bool true) ∧ Below w.heap.size w w' := by
  have kh := heads_any
  go_enter Try.func4, Try.ntmps4
  go_wp2_with fail
  refine (k1 _).mono ?_
  rintro e w1 ⟨rfl, hB1⟩
  have HX1 : Hid (Below w.heap.size w (w1.alloc (.cells #[.int .i64 0, .int .i64 0, .int .i64 fl] 23))) := below_more hB1 _
  clear hB1 k1
  go_wp2_with fail
  refine (k2 _).mono ?_
  rintro e w2 ⟨rfl, hB2⟩
  have HX2 : Hid (Below w.heap.size w (w2.alloc (.cells #[.int .i64 0, .int .i64 0, .int .i64 0] 23))) := below_more (Below.on HX1.out hB2) _
  clear HX1 hB2 k2
  go_wp2_with fail
  refine (kh _).mono ?_
  rintro e wz ⟨rfl, hBz⟩
  go_wp2_with fail
  go_ret
  exact ⟨rfl, Below.on HX2.out hBz⟩

set_option maxRecDepth 100000 in
set_option maxHeartbeats 4000000 in
theorem beg_e (fl n s m : Int) (w : World) (hf : 1 ≤ fl ∧ s ≤ fl) (hn : 0 ≤ n ∧ n ≤ 1073741824 ∧ 1 ≤ m ∧ m ≤ 65000) (q : Int) (hq : m ≤ q ∧ q ≤ n + m) (k3 : ∀ W, Calls Try.prog 12 #[.agg #[.int .i64 n, .int .i64 0, .int .i64 fl]] W fun e w' => e = .returned (.int .i64 0) ∧ Below W.heap.size W w') (k1 : ∀ W, Calls Try.prog 11 #[.int .i64 fl] W fun e w' => e = .returned (.tuple #[.agg #[.int .i64 0, .int .i64 0, .int .i64 fl], .int .i64 0]) ∧ Below W.heap.size W w')
    (k2 : ∀ W, Calls Try.prog 9 #[.agg #[.int .i64 0, .int .i64 0, .int .i64 fl], .int .i64 n, .int .i64 fl, .int .i64 s, .int .i64 m, .bool true] W fun e w' => e = .returned (.tuple #[.agg #[.int .i64 n, .int .i64 0, .int .i64 fl], .int .i64 q, .int .i64 0]) ∧ Below W.heap.size W w') : Calls Try.prog 4 #[.int .i64 fl, .int .i64 n, .int .i64 s, .int .i64 m] w fun e w' => e = .returned (.bool true) ∧ Below w.heap.size w w' := by
  have kh := heads_any
  obtain ⟨t, ht⟩ : ∃ t, n + m = t := ⟨_, rfl⟩
  rw [ht] at hq
  have ht3 : (if m < t then t else m) = t := by split <;> omega
  have ht4 : m ≤ t := by omega
  go_enter Try.func4, Try.ntmps4
  go_wp2_with fail
  refine (k1 _).mono ?_
  rintro e w1 ⟨rfl, hB1⟩
  have HX1 : Hid (Below w.heap.size w (w1.alloc (.cells #[.int .i64 0, .int .i64 0, .int .i64 fl] 23))) := below_more hB1 _
  clear hB1 k1
  go_wp2_with fail
  refine (k2 _).mono ?_
  rintro e w2 ⟨rfl, hB2⟩
  have HX2 : Hid (Below w.heap.size w (w2.alloc (.cells #[.int .i64 n, .int .i64 0, .int .i64 fl] 23))) := below_more (Below.on HX1.out hB2) _
  clear HX1 hB2 k2
  go_wp2_with fail
  refine (k3 _).mono ?_
  rintro e w3 ⟨rfl, hB3⟩
  have HX3 : Hid (Below w.heap.size w w3) := Below.on HX2.out hB3
  clear HX2 hB3 k3
  go_wp2_with fail
  refine (kh _).mono ?_
  rintro e wz ⟨rfl, hBz⟩
  go_wp2_with fail
  go_ret
  exact ⟨rfl, Below.on HX3.out hBz⟩

theorem begins_walk (fl n s m : Int) (w : World) (hfl : I64 fl) (hn : I64 n) (hs : I64 s) (hm : I64 m) : Calls Try.prog 4 #[.int .i64 fl, .int .i64 n, .int .i64 s, .int .i64 m] w fun e w' => e = .returned (.bool true) ∧ Below w.heap.size w w' := by
  cases h : szB fl with
  | false =>
    exact beg_a fl n s m w (fun W => bgn_is fl W zP (by rw [bgnR, if_neg (by simp [h])]) 2 (by rw [bgnE, if_neg (by simp [h])]))
  | true =>
    have hh := sz_out h
    by_cases h1 : fl < 1
    · exact beg_b fl n s m w h1 (fun W => bgn_is fl W ⟨0, 0, 1⟩ (by rw [bgnR, if_pos h, show max fl 1 = 1 from by omega]) 0 (by rw [bgnE, if_pos h]))
    · have k1 : ∀ W, Calls Try.prog 11 #[.int .i64 fl] W fun e w' => e = .returned (.tuple #[.agg #[.int .i64 0, .int .i64 0, .int .i64 fl], .int .i64 0]) ∧ Below W.heap.size W w' := fun W => bgn_is fl W ⟨0, 0, fl⟩ (by rw [bgnR, if_pos h, show max fl 1 = fl from by omega]) 0 (by rw [bgnE, if_pos h])
      by_cases h2 : fl < s
      · exact beg_c fl n s m w ⟨by omega, h2⟩ k1
      · have k : okB ⟨0, 0, fl⟩ = true := ok_in (by omega)
        by_cases h3 : givE ⟨0, 0, fl⟩ n fl s m = 0
        · obtain ⟨_, ka⟩ := giv_zero h3
          obtain ⟨e1, e2, e3⟩ := giv_ok (b := true) k ka
          have hg := arg_out ka
          have em : moreI 0 n = n := by unfold moreI; omega
          rw [em] at e2 e3
          have hq : m ≤ mayI n 0 fl n fl s m true ∧ mayI n 0 fl n fl s m true ≤ n + m := by
            unfold mayI
            rw [if_pos rfl]
            unfold rawI
            by_cases h4 : s < fl
            · rw [if_pos h4]
              have := up_le (a := n) (b := s) (c := fl) (by omega) (by omega) (by omega) (by omega)
              omega
            · rw [if_neg h4]; omega
          exact beg_e fl n s m w ⟨by omega, by omega⟩ (by omega) _ hq (fun W => chk_yes n 0 fl W (ok_in (by omega))) k1 (fun W => giv_is 0 0 fl n fl s m true W _ e2 _ e3 0 e1)
        · obtain ⟨e1, e2, e3⟩ := giv_bad (b := true) h3
          have e4 : givE ⟨0, 0, fl⟩ n fl s m = 2 := by
            rcases e1 with e1 | e1
            · rw [givE, if_pos k] at e1; split at e1 <;> omega
            · exact e1
          exact beg_d fl n s m w ⟨by omega, by omega⟩ k1 (fun W => giv_is 0 0 fl n fl s m true W _ e2 0 e3 2 e4)
end Go.Proofs.Ytdfgdnpokjmjhaa
