/- The walk of RackOrder. -/
import Derived.Test.YtfkkpianlmpknaaHeads
import Derived.Test.YtfkkpianlmpknaaOpen
namespace Go.Proofs.Ytfkkpianlmpknaa
open Go.ChangeShapes Go.WideShapes Go.ChangeAt Go.RowKit Go.Shelf
set_option linter.unusedVariables false
set_option linter.unusedSimpArgs false
attribute [local go_sem] Oper.semAt_some

set_option maxRecDepth 100000 in
set_option maxHeartbeats 4000000 in
theorem order_out0 (A : Option Addr) (n cap : Nat) (xs : List Int) (gap : Int) (w : World) (h : 200 < (n : Int)) : Calls Try.prog 8 #[.slice A n cap, .int .i64 gap] w fun e w' => e = .returned (.bool true) ∧ Below w.heap.size w w' := by
  have q7 := heads_any
  skip
  have d0 : decide (200 < (n : Int)) = true := by first | (simp; done) | (simp; omega)
  clear h 
  go_enter Try.func8, Try.ntmps8
  go_wp2_with fail
  refine (q7 _).mono ?_
  rintro e w6 ⟨rfl, hB6⟩
  go_wp2_with fail
  go_ret
  exact ⟨rfl, hB6⟩

set_option maxRecDepth 100000 in
set_option maxHeartbeats 4000000 in
theorem order_out1 (A : Option Addr) (n cap : Nat) (xs : List Int) (gap : Int) (w : World) (h : gap < 0) (h0 : (n : Int) ≤ 200) : Calls Try.prog 8 #[.slice A n cap, .int .i64 gap] w fun e w' => e = .returned (.bool true) ∧ Below w.heap.size w w' := by
  have q7 := heads_any
  have d0 : decide (200 < (n : Int)) = false := by first | (simp; done) | (simp; omega)
  have d1 : decide (gap < 0) = true := by first | (simp; done) | (simp; omega)
  clear h h0
  go_enter Try.func8, Try.ntmps8
  go_wp2_with fail
  refine (q7 _).mono ?_
  rintro e w6 ⟨rfl, hB6⟩
  go_wp2_with fail
  go_ret
  exact ⟨rfl, hB6⟩

set_option maxRecDepth 100000 in
set_option maxHeartbeats 4000000 in
theorem order_out2 (A : Option Addr) (n cap : Nat) (xs : List Int) (gap : Int) (w : World) (h : 1000000 < gap) (h0 : (n : Int) ≤ 200) (h1 : 0 ≤ gap) : Calls Try.prog 8 #[.slice A n cap, .int .i64 gap] w fun e w' => e = .returned (.bool true) ∧ Below w.heap.size w w' := by
  have q7 := heads_any
  have d0 : decide (200 < (n : Int)) = false := by first | (simp; done) | (simp; omega)
  have d1 : decide (gap < 0) = false := by first | (simp; done) | (simp; omega)
  have d2 : decide (1000000 < gap) = true := by first | (simp; done) | (simp; omega)
  clear h h0 h1
  go_enter Try.func8, Try.ntmps8
  go_wp2_with fail
  refine (q7 _).mono ?_
  rintro e w6 ⟨rfl, hB6⟩
  go_wp2_with fail
  go_ret
  exact ⟨rfl, hB6⟩

theorem order_given {ks at0 kr nn nw gap : Int} (h1 : 0 ≤ at0 ∧ at0 ≤ 1000000) (h2 : 1 ≤ nn ∧ nn ≤ 1000) (h3 : 0 ≤ nw ∧ nw ≤ 1000000000) (h4 : 0 ≤ ks ∧ ks ≤ nw) (h5 : 0 ≤ kr ∧ kr ≤ 1000000) (h6 : 0 ≤ gap ∧ gap ≤ 1000000) :
    givR ⟨ks, at0, kr, false, at0, 1, 0, 0⟩ ⟨at0, (at0 + nn), false, nw, 1, false, false, false, 0, 0, 0, false⟩ (nw + gap) 0 = ⟨nw, (at0 + nn), gap, false, (at0 + nn), 1, 0, 0⟩ ∧ givE ⟨ks, at0, kr, false, at0, 1, 0, 0⟩ ⟨at0, (at0 + nn), false, nw, 1, false, false, false, 0, 0, 0, false⟩ (nw + gap) 0 = 0 := by
  have hk : okK ⟨ks, at0, kr, false, at0, 1, 0, 0⟩ = true := by
    simp only [okK, ofB, endB, Bool.and_eq_true, decide_eq_true_eq]; omega
  have ha : argB ⟨at0, (at0 + nn), false, nw, 1, false, false, false, 0, 0, 0, false⟩ (nw + gap) 0 = true := by
    simp only [argB, tmB, recB, ofB, Bool.and_eq_true, decide_eq_true_eq]; omega
  unfold givR givE
  rw [if_pos hk, if_pos ha, if_pos hk, if_pos ha]
  refine ⟨?_, rfl⟩
  have e : given ⟨ks, at0, kr, false, at0, 1, 0, 0⟩ ⟨at0, (at0 + nn), false, nw, 1, false, false, false, 0, 0, 0, false⟩ (nw + gap) 0 = ⟨nw, at0 + nn, nw + gap - nw, seenB ⟨ks, at0, kr, false, at0, 1, 0, 0⟩ ⟨at0, (at0 + nn), false, nw, 1, false, false, false, 0, 0, 0, false⟩, max at0 (at0 + nn), 1, 0, 0⟩ := (if_neg (show ¬ ((1 : Int) < 1 ∧ nw + gap - nw < 0) by omega)).trans (if_pos (show ks < nw ∨ (nw = ks ∧ at0 < at0 + nn) by omega))
  have es : seenB ⟨ks, at0, kr, false, at0, 1, 0, 0⟩ ⟨at0, (at0 + nn), false, nw, 1, false, false, false, 0, 0, 0, false⟩ = false := by show (false || decide ((1 : Int) = 1 ∧ at0 + nn < at0)) = false; rw [decide_eq_false (by omega)]; rfl
  rw [e, es, show nw + gap - nw = gap by omega, show max at0 (at0 + nn) = at0 + nn by omega]
set_option maxRecDepth 100000 in
set_option maxHeartbeats 4000000 in
theorem order_main (A : Option Addr) (n cap : Nat) (xs : List Int) (gap : Int) (w : World) (hT : IntsAt w A xs) (hn : xs.length = n) (h0 : (n : Int) ≤ 200) (h1 : 0 ≤ gap) (h2 : gap ≤ 1000000) : Calls Try.prog 8 #[.slice A n cap, .int .i64 gap] w fun e w' => e = .returned (.bool true) ∧ Below w.heap.size w w' := by
  have q7 := heads_any
  have q1 := new_is
  have HT : Hid (IntsAt w A xs ∧ xs.length = n) := ⟨hT, hn⟩
  have d0 : decide (200 < (n : Int)) = false := by simp; omega
  have d1 : decide (gap < 0) = false := by simp; omega
  have d2 : decide (1000000 < gap) = false := by simp; omega
  have hn2 : n ≤ 200 := by omega
  clear hT hn
  go_enter Try.func8, Try.ntmps8
  go_wp2_with fail
  refine (q1 _).mono ?_
  rintro e w1 ⟨rfl, hB1⟩
  have HX1 : Hid (BoxK (w1.alloc (.cells #[.int .i64 0, .int .i64 0, .int .i64 0, .bool false, .int .i64 0, .int .i64 1, .int .i64 0, .int .i64 0] 23)) w1.heap.size (.int .i64 0) (.int .i64 0) (.int .i64 0) (.bool false) (.int .i64 0) (.int .i64 1) (.int .i64 0) (.int .i64 0) ∧ Below w.heap.size w (w1.alloc (.cells #[.int .i64 0, .int .i64 0, .int .i64 0, .bool false, .int .i64 0, .int .i64 1, .int .i64 0, .int .i64 0] 23)) ∧ w.heap.size ≤ w1.heap.size) := ⟨BoxK.new w1 _ _ _ _ _ _ _ _, below_more hB1 _, hB1.size⟩
  clear q1 hB1
  go_wp2_with fail
  go_loopw [6, 7, 8] (fun va vn vi wr => ∃ (i : Nat) (at0 nw ks kr : Int), va = .int .i64 at0 ∧ vn = .int .i64 nw ∧ vi = .int .i64 i ∧ i ≤ n ∧ (0 ≤ at0 ∧ at0 ≤ 1000 * i ∧ 0 ≤ nw ∧ nw ≤ 1000000 * i ∧ 0 ≤ ks ∧ ks ≤ nw ∧ 0 ≤ kr ∧ kr ≤ 1000000) ∧ Hid (BoxK wr w1.heap.size (.int .i64 ks) (.int .i64 at0) (.int .i64 kr) (.bool false) (.int .i64 at0) (.int .i64 1) (.int .i64 0) (.int .i64 0) ∧ Below w.heap.size w wr ∧ w.heap.size ≤ w1.heap.size))
    (fun _ _ vi _ => n - (intOf vi).toNat)
  case atStart => exact ⟨0, 0, 0, 0, 0, rfl, rfl, rfl, Nat.zero_le _, by omega, HX1.out⟩
  case round =>
    obtain ⟨i, at0, nw, ks, kr, rfl, rfl, rfl, hin, hbd, HI⟩ := hrel
    by_cases hlt : i < n
    · obtain ⟨b, o, rfl, hc, _⟩ := HT.out.1 i (by have := HT.out.2; omega)
      have hc1 := (HI.out.2.1.cell (p := ⟨b, o + i, none⟩) (lt_of_cell hc)).trans hc
      obtain ⟨v, hv⟩ : ∃ v, xs[i]?.getD 0 = v := ⟨_, rfl⟩
      rw [hv] at hc1
      have hlt' : (i : Int) < (n : Int) := by omega
      obtain ⟨u, hu⟩ : ∃ u, IntKind.u64.wrap v = u := ⟨_, rfl⟩
      have hub : 0 ≤ u ∧ u < 18446744073709551616 := by rw [← hu, IntKind.wrap_u64]; omega
      clear hv hc
      go_upto_region 9 with fail
      obtain ⟨nn, hnn⟩ : ∃ nn, u % 1000 + 1 = nn := ⟨_, rfl⟩
      have hnb : 1 ≤ nn ∧ nn ≤ 1000 := by omega
      rw [hnn]
      obtain ⟨hg, he⟩ := order_given (ks := ks) (at0 := at0) (kr := kr) (nn := nn) (nw := nw) (gap := gap) (by omega) hnb (by omega) (by omega) (by omega) (by omega)
      have q2 : ∀ W, Calls Try.prog 9 #[.agg #[.int .i64 ks, .int .i64 at0, .int .i64 kr, .bool false, .int .i64 at0, .int .i64 1, .int .i64 0, .int .i64 0], .agg #[.int .i64 at0, .int .i64 (at0 + nn), .bool false, .int .i64 nw, .int .i64 1, .bool false, .bool false, .bool false, .int .i64 0, .int .i64 0, .int .i64 0, .bool false], .int .i64 (nw + gap), .int .i64 0] W fun e w' => e = .returned (.tuple #[.agg #[.int .i64 nw, .int .i64 (at0 + nn), .int .i64 gap, .bool false, .int .i64 (at0 + nn), .int .i64 1, .int .i64 0, .int .i64 0], .int .i64 0]) ∧ Below W.heap.size W w' := fun W => given_is ks at0 kr false at0 1 0 0 ⟨at0, (at0 + nn), false, nw, 1, false, false, false, 0, 0, 0, false⟩ (nw + gap) 0 W ⟨nw, (at0 + nn), gap, false, (at0 + nn), 1, 0, 0⟩ hg 0 he
      have HV : Hid (BoxK (wr.alloc (.cells #[.int .i64 at0, .int .i64 (at0 + nn), .bool false, .int .i64 nw, .int .i64 1, .bool false, .bool false, .bool false, .int .i64 0, .int .i64 0, .int .i64 0, .bool false] 25)) w1.heap.size (.int .i64 ks) (.int .i64 at0) (.int .i64 kr) (.bool false) (.int .i64 at0) (.int .i64 1) (.int .i64 0) (.int .i64 0) ∧ BoxX (wr.alloc (.cells #[.int .i64 at0, .int .i64 (at0 + nn), .bool false, .int .i64 nw, .int .i64 1, .bool false, .bool false, .bool false, .int .i64 0, .int .i64 0, .int .i64 0, .bool false] 25)) wr.heap.size (.int .i64 at0) (.int .i64 (at0 + nn)) (.bool false) (.int .i64 nw) (.int .i64 1) (.bool false) (.bool false) (.bool false) (.int .i64 0) (.int .i64 0) (.int .i64 0) (.bool false) ∧ Below w.heap.size w (wr.alloc (.cells #[.int .i64 at0, .int .i64 (at0 + nn), .bool false, .int .i64 nw, .int .i64 1, .bool false, .bool false, .bool false, .int .i64 0, .int .i64 0, .int .i64 0, .bool false] 25)) ∧ w.heap.size ≤ w1.heap.size) := ⟨HI.out.1.alloc _, BoxX.new wr _ _ _ _ _ _ _ _ _ _ _ _, below_more HI.out.2.1 _, HI.out.2.2⟩
      have hb2 : 0 ≤ at0 ∧ at0 ≤ 200000 ∧ 0 ≤ nw ∧ nw ≤ 200000000 := by omega
      have HBD : Hid (0 ≤ at0 ∧ at0 ≤ 1000 * i ∧ 0 ≤ nw ∧ nw ≤ 1000000 * i) := by unfold Hid; omega
      clear hnn hub hu hc1 hbd hg he HI
      go_upto_region 11 with fail
      obtain ⟨V, hV⟩ : ∃ V, (wr.alloc (.cells #[.int .i64 at0, .int .i64 (at0 + nn), .bool false, .int .i64 nw, .int .i64 1, .bool false, .bool false, .bool false, .int .i64 0, .int .i64 0, .int .i64 0, .bool false] 25)) = V := ⟨_, rfl⟩
      rw [hV] at HV
      try rw [hV]
      clear hV
      obtain ⟨k0, k1, k2, k3, k4, k5, k6, k7⟩ := HV.out.1.cells
      obtain ⟨x0, x1, x2, x3, x4, x5, x6, x7, x8, x9, x10, x11⟩ := HV.out.2.1.cells
      go_wp2_with fail
      refine (q2 _).mono ?_
      rintro e w2 ⟨rfl, hB2⟩
      have HV2 : Hid (BoxK (w2.alloc (.cells #[.int .i64 nw, .int .i64 (at0 + nn), .int .i64 gap, .bool false, .int .i64 (at0 + nn), .int .i64 1, .int .i64 0, .int .i64 0] 23)) w1.heap.size (.int .i64 ks) (.int .i64 at0) (.int .i64 kr) (.bool false) (.int .i64 at0) (.int .i64 1) (.int .i64 0) (.int .i64 0) ∧ BoxK (w2.alloc (.cells #[.int .i64 nw, .int .i64 (at0 + nn), .int .i64 gap, .bool false, .int .i64 (at0 + nn), .int .i64 1, .int .i64 0, .int .i64 0] 23)) w2.heap.size (.int .i64 nw) (.int .i64 (at0 + nn)) (.int .i64 gap) (.bool false) (.int .i64 (at0 + nn)) (.int .i64 1) (.int .i64 0) (.int .i64 0) ∧ Below w.heap.size w (w2.alloc (.cells #[.int .i64 nw, .int .i64 (at0 + nn), .int .i64 gap, .bool false, .int .i64 (at0 + nn), .int .i64 1, .int .i64 0, .int .i64 0] 23)) ∧ w.heap.size ≤ w1.heap.size) := ⟨(HV.out.1.later hB2).alloc _, BoxK.new w2 _ _ _ _ _ _ _ _, below_more (Below.on HV.out.2.2.1 hB2) _, HV.out.2.2.2⟩
      have hne : w1.heap.size < w2.heap.size := Nat.lt_of_lt_of_le HV.out.1.lt hB2.size
      clear HV hB2 q2 k0 k1 k2 k3 k4 k5 k6 k7 x0 x1 x2 x3 x4 x5 x6 x7 x8 x9 x10 x11
      go_upto_region 12 with fail
      obtain ⟨V2, hV2⟩ : ∃ V, (w2.alloc (.cells #[.int .i64 nw, .int .i64 (at0 + nn), .int .i64 gap, .bool false, .int .i64 (at0 + nn), .int .i64 1, .int .i64 0, .int .i64 0] 23)) = V := ⟨_, rfl⟩
      rw [hV2] at HV2
      try rw [hV2]
      clear hV2
      obtain ⟨k0, k1, k2, k3, k4, k5, k6, k7⟩ := HV2.out.1.cells
      obtain ⟨j0, j1, j2, j3, j4, j5, j6, j7⟩ := HV2.out.2.1.cells
      have f1 := fun i => HV2.out.1.frozen i
      have hl1 := HV2.out.1.lt
      have hl2 := HV2.out.2.1.lt
      go_wp2_with fail
      go_roundw
      case rel => exact ⟨i + 1, at0 + nn, nw + gap, nw, gap, rfl, rfl, by go_num, by omega, by have := HBD.out; omega, HV2.out.1.put _ _ _ _ _ _ _ _, below_putK HV2.out.2.2.1 _ HV2.out.2.2.2 _ _ _ _ _ _ _ _, HV2.out.2.2.2⟩
      case measure => simp [intOf]; omega
    · obtain rfl : i = n := by omega
      clear hbd
      go_wp2_with fail
      refine (q7 _).mono ?_
      rintro e w6 ⟨rfl, hB6⟩
      go_wp2_with fail
      go_ret
      exact ⟨rfl, Below.on HI.out.2.1 hB6⟩

theorem order_walk (A : Option Addr) (n cap : Nat) (xs : List Int) (gap : Int) (w : World) (hT : IntsAt w A xs) (hn : xs.length = n) (hb : n ≤ 9223372036854775807) (hg : I64 gap) : Calls Try.prog 8 #[.slice A n cap, .int .i64 gap] w fun e w' => e = .returned (.bool true) ∧ Below w.heap.size w w' := by
  by_cases c0 : 200 < (n : Int)
  · exact order_out0 A n cap xs gap w c0
  by_cases c1 : gap < 0
  · exact order_out1 A n cap xs gap w c1 (by omega)
  by_cases c2 : 1000000 < gap
  · exact order_out2 A n cap xs gap w c2 (by omega) (by omega)
  exact order_main A n cap xs gap w hT hn (by omega) (by omega) (by omega)
end Go.Proofs.Ytfkkpianlmpknaa
