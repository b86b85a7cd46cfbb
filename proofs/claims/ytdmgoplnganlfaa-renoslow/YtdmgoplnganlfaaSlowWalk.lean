/- The walk of RenoSlow. -/
import Derived.Test.YtdmgoplnganlfaaOpen
namespace Go.Proofs.Ytdmgoplnganlfaa
open Go.ChangeShapes Go.WideShapes Go.ChangeAt Go.RowKit
set_option linter.unusedVariables false


/-- What is kept from round to round: p windows were paid for. -/
def slowI (c d : Cc) (p sm : Int) (i : Nat) : Prop := okB d = true ∧ d.ms = c.ms ∧ d.ss = c.ss ∧ d.cw = c.cw + p * c.ms ∧ 0 ≤ p ∧ p ≤ (i : Int) ∧ p * c.cw + d.ac ≤ sm
theorem slow_step {c d : Cc} {p sm e : Int} {i : Nat} (ho : okB c = true ∧ c.ss ≤ c.cw ∧ c.cw ≤ 536870912) (h : slowI c d p sm i) (hi : i < 200) (he : 0 ≤ e ∧ e < 100000) (hs : 0 ≤ sm ∧ sm ≤ 1073741824 + 100000 * (i : Int)) :
    ∃ p2 y t2 : Int, slowI c (rn c.ms (grwC d e) c.ss (grwA d e)) p2 (sm + e) (i + 1) ∧ d.cw ≤ grwC d e ∧ grwC d e ≤ d.cw + c.ms ∧ (1 ≤ d.cw ∧ d.cw ≤ 549936912) ∧ d.ms = c.ms ∧ (grwC d e - c.cw = y ∧ 0 ≤ y ∧ y ≤ 13065000) ∧ y.tdiv c.ms = p2 ∧ (sm + e).tdiv c.cw = t2 ∧ p2 ≤ t2 ∧ (0 ≤ p2 ∧ p2 ≤ 201 ∧ 0 ≤ t2 ∧ t2 ≤ 1200000000) := by
  obtain ⟨hk, h1, h2, h3, h4, h5, h6⟩ := h
  have hc := (ok_is ho.1).2
  have hd := (ok_is hk).2
  have pm : p * c.ms ≤ 13000000 := by
    have := Int.mul_le_mul (a := p) (b := c.ms) (c := 200) (d := 65000) (by omega) (by omega) (by omega) (by omega)
    omega
  have pm0 : 0 ≤ p * c.ms := Int.mul_nonneg h4 (by omega)
  have ps0 : 0 ≤ p * c.cw := Int.mul_nonneg h4 (by omega)
  have e1 : (p + 1) * c.ms = p * c.ms + c.ms := by rw [Int.add_mul, Int.one_mul]
  have e2 : (p + 1) * c.cw = p * c.cw + c.cw := by rw [Int.add_mul, Int.one_mul]
  have hns : ¬ d.cw < d.ss := by omega
  have fin : ∀ q : Int, 0 ≤ q → q ≤ 201 → q * c.cw ≤ sm + e → (q * c.ms).tdiv c.ms = q ∧ q ≤ (sm + e).tdiv c.cw ∧ 0 ≤ (sm + e).tdiv c.cw ∧ (sm + e).tdiv c.cw ≤ 1200000000 := by
    intro q hq hq2 hqs
    have hp : 0 < c.cw := by omega
    have ht : (sm + e).tdiv c.cw = (sm + e) / c.cw := Int.tdiv_eq_ediv_of_nonneg (by omega)
    rw [ht]
    refine ⟨Int.mul_tdiv_cancel _ (by omega), Int.le_ediv_of_mul_le hp hqs, Int.ediv_nonneg (by omega) (by omega), ?_⟩
    have := Int.ediv_le_self (b := c.cw) (a := sm + e) (by omega)
    omega
  unfold grwC grwA
  rw [if_neg hns, if_neg hns]
  by_cases hp : d.ac + e < d.cw
  · rw [if_pos hp, if_pos hp]
    obtain ⟨f1, f2, f3, f4⟩ := fin p h4 (by omega) (by omega)
    refine ⟨p, p * c.ms, _, ⟨ok_rn (by omega), rfl, rfl, h3, h4, by push_cast; omega, ?_⟩, by omega, by omega, by omega, h1, by omega, f1, rfl, f2, by omega, by omega, f3, f4⟩
    show p * c.cw + min (d.ac + e) 1073741824 ≤ sm + e
    omega
  · rw [if_neg hp, if_neg hp, h1]
    have hq : (p + 1) * c.cw + min (d.ac + e - d.cw) 1073741824 ≤ sm + e := by rw [e2]; omega
    obtain ⟨f1, f2, f3, f4⟩ := fin (p + 1) (by omega) (by omega) (by omega)
    refine ⟨p + 1, (p + 1) * c.ms, _, ⟨ok_rn (by omega), rfl, rfl, ?_, by omega, by push_cast; omega, hq⟩, by omega, by omega, by omega, rfl, by omega, f1, rfl, f2, by omega, by omega, f3, f4⟩
    show min (d.cw + c.ms) 1073741824 = c.cw + (p + 1) * c.ms
    omega
theorem slow_ack {c d : Cc} {p sm e : Int} {i : Nat} (h : slowI c d p sm i) (he : 0 ≤ e ∧ e < 100000) (w : World) : Calls Try.prog 12 #[ccv d, .int .i64 e, .bool false] w fun e_ w' => e_ = .returned (.tuple #[ccv (rn c.ms (grwC d e) c.ss (grwA d e)), .int .i64 0]) ∧ Below w.heap.size w w' := by
  have k2 : szB e = true := decide_eq_true (by omega)
  have hI : CcI d := ok_cci h.1
  have := ack_is d e false hI w
  unfold ackR ansR bgE at this
  rw [h.1, k2, h.2.1, h.2.2.1] at this
  exact this

set_option maxRecDepth 100000 in
set_option maxHeartbeats 4000000 in
theorem slow_no (c : Cc) (A : Option Addr) (n cp : Nat) (c1 : ∀ W, Calls Try.prog 15 #[ccv c] W fun e w' => e = .returned (.int .i64 230) ∧ Below W.heap.size W w') (w : World) : Calls Try.prog 6 #[ccv c, .slice A n cp] w fun e w' => e = .returned (.bool true) ∧ Below w.heap.size w w' := by
  have kh : Hid (∀ W, Calls Try.prog 10 #[] W fun e w' => e = .returned (.bool true) ∧ Below W.heap.size W w') := heads_any
  go_enter Try.func6, Try.ntmps6
  go_wp2_with (first | (refine wpC_box rfl rfl rfl ?_))
  intro X1 p HN
  have HX1 : Hid (Below w.heap.size w X1 ∧ Box X1 p 26 (ccL c) ∧ w.heap.size ≤ p ∧ True) := by
    have hb := Below.refl w.heap.size w
    obtain ⟨hg, hb2, bn⟩ := HN.out
    have hz := hb.size
    exact ⟨Below.on hb hb2, bn, by omega, trivial⟩
  clear HN 
  go_wp2_with (first | (refine wpC_load rfl isC26 rfl rfl (HX1.out.2.1) ?_) | (refine wpC_alloc rfl rfl zero26 ?_))
  intro X2 g HN
  have HX2 : Hid (Below w.heap.size w X2 ∧ Box X2 p 26 (ccL c) ∧ Box X2 g 26 (ccL zC) ∧ w.heap.size ≤ p ∧ p < g ∧ True) := by
    obtain ⟨hb, b0, l0, _⟩ := HX1.out
    obtain ⟨hg, hb2, bn⟩ := HN.out
    have z0 := b0.lt
    exact ⟨Below.on hb hb2, b0.later hb2, bn, l0, by omega, trivial⟩
  clear HN HX1
  go_wp2_with (first | (refine wpC_store rfl isC26 rfl rfl rfl rfl (HX2.out.2.2.1) rfl ?_))
  intro X3 HN
  have HX3 : Hid (Below w.heap.size w X3 ∧ Box X3 p 26 (ccL c) ∧ Box X3 g 26 (ccL c) ∧ w.heap.size ≤ p ∧ p < g ∧ True) := by
    obtain ⟨hb, b0, b1, l0, l1, _⟩ := HX2.out
    obtain ⟨st, bn⟩ := HN.out
    exact ⟨st.below _ _ (by omega) hb, b0.sto st (by omega), bn, l0, l1, trivial⟩
  clear HN HX2
  go_wp2_with (first | (refine wpC_load rfl isC26 rfl rfl (HX3.out.2.2.1) ?_) | fail)
  refine (c1 _).mono ?_
  rintro e w4 ⟨rfl, hB⟩
  have HX4 : Hid (Below w.heap.size w w4 ∧ Box w4 p 26 (ccL c) ∧ Box w4 g 26 (ccL c) ∧ w.heap.size ≤ p ∧ p < g ∧ True) := by
    obtain ⟨hb, b0, b1, l0, l1, _⟩ := HX3.out
    exact ⟨Below.on hb hB, b0.later hB, b1.later hB, l0, l1, trivial⟩
  clear hB HX3
  go_wp2_with fail
  refine (kh.out _).mono ?_
  rintro e w5 ⟨rfl, hB⟩
  have HX5 : Hid (Below w.heap.size w w5 ∧ Box w5 p 26 (ccL c) ∧ Box w5 g 26 (ccL c) ∧ w.heap.size ≤ p ∧ p < g ∧ True) := by
    obtain ⟨hb, b0, b1, l0, l1, _⟩ := HX4.out
    exact ⟨Below.on hb hB, b0.later hB, b1.later hB, l0, l1, trivial⟩
  clear hB HX4
  go_wp2_with fail
  go_ret
  exact ⟨rfl, HX5.out.1⟩

set_option maxRecDepth 100000 in
set_option maxHeartbeats 4000000 in
theorem slow_0 (c : Cc) (A : Option Addr) (n cp : Nat) (h : c.cw < c.ss) (c1 : ∀ W, Calls Try.prog 15 #[ccv c] W fun e w' => e = .returned (.int .i64 0) ∧ Below W.heap.size W w') (w : World) : Calls Try.prog 6 #[ccv c, .slice A n cp] w fun e w' => e = .returned (.bool true) ∧ Below w.heap.size w w' := by
  have kh : Hid (∀ W, Calls Try.prog 10 #[] W fun e w' => e = .returned (.bool true) ∧ Below W.heap.size W w') := heads_any
  go_enter Try.func6, Try.ntmps6
  go_wp2_with (first | (refine wpC_box rfl rfl rfl ?_))
  intro X1 p HN
  have HX1 : Hid (Below w.heap.size w X1 ∧ Box X1 p 26 (ccL c) ∧ w.heap.size ≤ p ∧ True) := by
    have hb := Below.refl w.heap.size w
    obtain ⟨hg, hb2, bn⟩ := HN.out
    have hz := hb.size
    exact ⟨Below.on hb hb2, bn, by omega, trivial⟩
  clear HN 
  go_wp2_with (first | (refine wpC_load rfl isC26 rfl rfl (HX1.out.2.1) ?_) | (refine wpC_alloc rfl rfl zero26 ?_))
  intro X2 g HN
  have HX2 : Hid (Below w.heap.size w X2 ∧ Box X2 p 26 (ccL c) ∧ Box X2 g 26 (ccL zC) ∧ w.heap.size ≤ p ∧ p < g ∧ True) := by
    obtain ⟨hb, b0, l0, _⟩ := HX1.out
    obtain ⟨hg, hb2, bn⟩ := HN.out
    have z0 := b0.lt
    exact ⟨Below.on hb hb2, b0.later hb2, bn, l0, by omega, trivial⟩
  clear HN HX1
  go_wp2_with (first | (refine wpC_store rfl isC26 rfl rfl rfl rfl (HX2.out.2.2.1) rfl ?_))
  intro X3 HN
  have HX3 : Hid (Below w.heap.size w X3 ∧ Box X3 p 26 (ccL c) ∧ Box X3 g 26 (ccL c) ∧ w.heap.size ≤ p ∧ p < g ∧ True) := by
    obtain ⟨hb, b0, b1, l0, l1, _⟩ := HX2.out
    obtain ⟨st, bn⟩ := HN.out
    exact ⟨st.below _ _ (by omega) hb, b0.sto st (by omega), bn, l0, l1, trivial⟩
  clear HN HX2
  go_wp2_with (first | (refine wpC_load rfl isC26 rfl rfl (HX3.out.2.2.1) ?_) | fail)
  refine (c1 _).mono ?_
  rintro e w4 ⟨rfl, hB⟩
  have HX4 : Hid (Below w.heap.size w w4 ∧ Box w4 p 26 (ccL c) ∧ Box w4 g 26 (ccL c) ∧ w.heap.size ≤ p ∧ p < g ∧ True) := by
    obtain ⟨hb, b0, b1, l0, l1, _⟩ := HX3.out
    exact ⟨Below.on hb hB, b0.later hB, b1.later hB, l0, l1, trivial⟩
  clear hB HX3
  have k2 := Box.cell (HX4.out.2.2.1) 2 rfl
  have k3 := Box.cell (HX4.out.2.2.1) 3 rfl
  go_wp2_with fail
  refine (kh.out _).mono ?_
  rintro e w5 ⟨rfl, hB⟩
  have HX5 : Hid (Below w.heap.size w w5 ∧ Box w5 p 26 (ccL c) ∧ Box w5 g 26 (ccL c) ∧ w.heap.size ≤ p ∧ p < g ∧ True) := by
    obtain ⟨hb, b0, b1, l0, l1, _⟩ := HX4.out
    exact ⟨Below.on hb hB, b0.later hB, b1.later hB, l0, l1, trivial⟩
  clear hB HX4
  go_wp2_with fail
  go_ret
  exact ⟨rfl, HX5.out.1⟩

set_option maxRecDepth 100000 in
set_option maxHeartbeats 4000000 in
theorem slow_1 (c : Cc) (A : Option Addr) (n cp : Nat) (h : c.ss ≤ c.cw ∧ 200 < n) (c1 : ∀ W, Calls Try.prog 15 #[ccv c] W fun e w' => e = .returned (.int .i64 0) ∧ Below W.heap.size W w') (w : World) : Calls Try.prog 6 #[ccv c, .slice A n cp] w fun e w' => e = .returned (.bool true) ∧ Below w.heap.size w w' := by
  have kh : Hid (∀ W, Calls Try.prog 10 #[] W fun e w' => e = .returned (.bool true) ∧ Below W.heap.size W w') := heads_any
  have hn' : (200 : Int) < (n : Int) := by omega
  go_enter Try.func6, Try.ntmps6
  go_wp2_with (first | (refine wpC_box rfl rfl rfl ?_))
  intro X1 p HN
  have HX1 : Hid (Below w.heap.size w X1 ∧ Box X1 p 26 (ccL c) ∧ w.heap.size ≤ p ∧ True) := by
    have hb := Below.refl w.heap.size w
    obtain ⟨hg, hb2, bn⟩ := HN.out
    have hz := hb.size
    exact ⟨Below.on hb hb2, bn, by omega, trivial⟩
  clear HN 
  go_wp2_with (first | (refine wpC_load rfl isC26 rfl rfl (HX1.out.2.1) ?_) | (refine wpC_alloc rfl rfl zero26 ?_))
  intro X2 g HN
  have HX2 : Hid (Below w.heap.size w X2 ∧ Box X2 p 26 (ccL c) ∧ Box X2 g 26 (ccL zC) ∧ w.heap.size ≤ p ∧ p < g ∧ True) := by
    obtain ⟨hb, b0, l0, _⟩ := HX1.out
    obtain ⟨hg, hb2, bn⟩ := HN.out
    have z0 := b0.lt
    exact ⟨Below.on hb hb2, b0.later hb2, bn, l0, by omega, trivial⟩
  clear HN HX1
  go_wp2_with (first | (refine wpC_store rfl isC26 rfl rfl rfl rfl (HX2.out.2.2.1) rfl ?_))
  intro X3 HN
  have HX3 : Hid (Below w.heap.size w X3 ∧ Box X3 p 26 (ccL c) ∧ Box X3 g 26 (ccL c) ∧ w.heap.size ≤ p ∧ p < g ∧ True) := by
    obtain ⟨hb, b0, b1, l0, l1, _⟩ := HX2.out
    obtain ⟨st, bn⟩ := HN.out
    exact ⟨st.below _ _ (by omega) hb, b0.sto st (by omega), bn, l0, l1, trivial⟩
  clear HN HX2
  go_wp2_with (first | (refine wpC_load rfl isC26 rfl rfl (HX3.out.2.2.1) ?_) | fail)
  refine (c1 _).mono ?_
  rintro e w4 ⟨rfl, hB⟩
  have HX4 : Hid (Below w.heap.size w w4 ∧ Box w4 p 26 (ccL c) ∧ Box w4 g 26 (ccL c) ∧ w.heap.size ≤ p ∧ p < g ∧ True) := by
    obtain ⟨hb, b0, b1, l0, l1, _⟩ := HX3.out
    exact ⟨Below.on hb hB, b0.later hB, b1.later hB, l0, l1, trivial⟩
  clear hB HX3
  have k2 := Box.cell (HX4.out.2.2.1) 2 rfl
  have k3 := Box.cell (HX4.out.2.2.1) 3 rfl
  go_wp2_with fail
  refine (kh.out _).mono ?_
  rintro e w5 ⟨rfl, hB⟩
  have HX5 : Hid (Below w.heap.size w w5 ∧ Box w5 p 26 (ccL c) ∧ Box w5 g 26 (ccL c) ∧ w.heap.size ≤ p ∧ p < g ∧ True) := by
    obtain ⟨hb, b0, b1, l0, l1, _⟩ := HX4.out
    exact ⟨Below.on hb hB, b0.later hB, b1.later hB, l0, l1, trivial⟩
  clear hB HX4
  go_wp2_with fail
  go_ret
  exact ⟨rfl, HX5.out.1⟩

set_option maxRecDepth 100000 in
set_option maxHeartbeats 4000000 in
theorem slow_2 (c : Cc) (A : Option Addr) (n cp : Nat) (h : c.ss ≤ c.cw ∧ n ≤ 200 ∧ 536870912 < c.cw) (c1 : ∀ W, Calls Try.prog 15 #[ccv c] W fun e w' => e = .returned (.int .i64 0) ∧ Below W.heap.size W w') (w : World) : Calls Try.prog 6 #[ccv c, .slice A n cp] w fun e w' => e = .returned (.bool true) ∧ Below w.heap.size w w' := by
  have kh : Hid (∀ W, Calls Try.prog 10 #[] W fun e w' => e = .returned (.bool true) ∧ Below W.heap.size W w') := heads_any
  have hn' : ¬ (200 : Int) < (n : Int) := by omega
  go_enter Try.func6, Try.ntmps6
  go_wp2_with (first | (refine wpC_box rfl rfl rfl ?_))
  intro X1 p HN
  have HX1 : Hid (Below w.heap.size w X1 ∧ Box X1 p 26 (ccL c) ∧ w.heap.size ≤ p ∧ True) := by
    have hb := Below.refl w.heap.size w
    obtain ⟨hg, hb2, bn⟩ := HN.out
    have hz := hb.size
    exact ⟨Below.on hb hb2, bn, by omega, trivial⟩
  clear HN 
  go_wp2_with (first | (refine wpC_load rfl isC26 rfl rfl (HX1.out.2.1) ?_) | (refine wpC_alloc rfl rfl zero26 ?_))
  intro X2 g HN
  have HX2 : Hid (Below w.heap.size w X2 ∧ Box X2 p 26 (ccL c) ∧ Box X2 g 26 (ccL zC) ∧ w.heap.size ≤ p ∧ p < g ∧ True) := by
    obtain ⟨hb, b0, l0, _⟩ := HX1.out
    obtain ⟨hg, hb2, bn⟩ := HN.out
    have z0 := b0.lt
    exact ⟨Below.on hb hb2, b0.later hb2, bn, l0, by omega, trivial⟩
  clear HN HX1
  go_wp2_with (first | (refine wpC_store rfl isC26 rfl rfl rfl rfl (HX2.out.2.2.1) rfl ?_))
  intro X3 HN
  have HX3 : Hid (Below w.heap.size w X3 ∧ Box X3 p 26 (ccL c) ∧ Box X3 g 26 (ccL c) ∧ w.heap.size ≤ p ∧ p < g ∧ True) := by
    obtain ⟨hb, b0, b1, l0, l1, _⟩ := HX2.out
    obtain ⟨st, bn⟩ := HN.out
    exact ⟨st.below _ _ (by omega) hb, b0.sto st (by omega), bn, l0, l1, trivial⟩
  clear HN HX2
  go_wp2_with (first | (refine wpC_load rfl isC26 rfl rfl (HX3.out.2.2.1) ?_) | fail)
  refine (c1 _).mono ?_
  rintro e w4 ⟨rfl, hB⟩
  have HX4 : Hid (Below w.heap.size w w4 ∧ Box w4 p 26 (ccL c) ∧ Box w4 g 26 (ccL c) ∧ w.heap.size ≤ p ∧ p < g ∧ True) := by
    obtain ⟨hb, b0, b1, l0, l1, _⟩ := HX3.out
    exact ⟨Below.on hb hB, b0.later hB, b1.later hB, l0, l1, trivial⟩
  clear hB HX3
  have k2 := Box.cell (HX4.out.2.2.1) 2 rfl
  have k3 := Box.cell (HX4.out.2.2.1) 3 rfl
  go_wp2_with fail
  refine (kh.out _).mono ?_
  rintro e w5 ⟨rfl, hB⟩
  have HX5 : Hid (Below w.heap.size w w5 ∧ Box w5 p 26 (ccL c) ∧ Box w5 g 26 (ccL c) ∧ w.heap.size ≤ p ∧ p < g ∧ True) := by
    obtain ⟨hb, b0, b1, l0, l1, _⟩ := HX4.out
    exact ⟨Below.on hb hB, b0.later hB, b1.later hB, l0, l1, trivial⟩
  clear hB HX4
  go_wp2_with fail
  go_ret
  exact ⟨rfl, HX5.out.1⟩

set_option maxRecDepth 100000 in
set_option maxHeartbeats 4000000 in
theorem slow_go (c : Cc) (A : Option Addr) (n cp : Nat) (xs : List Int) (m S s A0 : Int) (hM : c.ms = m) (hS : c.cw = S) (hs : c.ss = s) (hA : c.ac = A0) (w : World) (ho : okB c = true ∧ c.ss ≤ c.cw ∧ c.cw ≤ 536870912) (hb : 1 ≤ m ∧ m ≤ 65000 ∧ s ≤ S ∧ 1 ≤ S ∧ S ≤ 536870912 ∧ 0 ≤ A0 ∧ A0 ≤ 1073741824) (hX : IntsAt w A xs) (hx : xs.length = n) (hnb : n ≤ 200) (hinv : slowI c c 0 A0 0) (c1 : ∀ W, Calls Try.prog 15 #[ccv c] W fun e w' => e = .returned (.int .i64 0) ∧ Below W.heap.size W w') :
    Calls Try.prog 6 #[ccv c, .slice A n cp] w fun e w' => e = .returned (.bool true) ∧ Below w.heap.size w w' := by
  have kh : Hid (∀ W, Calls Try.prog 10 #[] W fun e w' => e = .returned (.bool true) ∧ Below W.heap.size W w') := heads_any
  have HP : Hid (IntsAt w A xs ∧ xs.length = n) := ⟨hX, hx⟩
  have HO : Hid (okB c = true ∧ c.ss ≤ c.cw ∧ c.cw ≤ 536870912) := ho
  have hnb' : ¬ (200 : Int) < (n : Int) := by omega
  clear hX hx ho
  go_enter Try.func6, Try.ntmps6
  go_wp2_with (first | (refine wpC_box rfl rfl rfl ?_))
  intro X1 p HN
  have HX1 : Hid (Below w.heap.size w X1 ∧ Box X1 p 26 (ccL c) ∧ w.heap.size ≤ p ∧ True) := by
    have hb := Below.refl w.heap.size w
    obtain ⟨hg, hb2, bn⟩ := HN.out
    have hz := hb.size
    exact ⟨Below.on hb hb2, bn, by omega, trivial⟩
  clear HN 
  go_wp2_with (first | (refine wpC_load rfl isC26 rfl rfl (HX1.out.2.1) ?_) | (refine wpC_alloc rfl rfl zero26 ?_))
  intro X2 g HN
  have HX2 : Hid (Below w.heap.size w X2 ∧ Box X2 p 26 (ccL c) ∧ Box X2 g 26 (ccL zC) ∧ w.heap.size ≤ p ∧ p < g ∧ True) := by
    obtain ⟨hb, b0, l0, _⟩ := HX1.out
    obtain ⟨hg, hb2, bn⟩ := HN.out
    have z0 := b0.lt
    exact ⟨Below.on hb hb2, b0.later hb2, bn, l0, by omega, trivial⟩
  clear HN HX1
  go_wp2_with (first | (refine wpC_store rfl isC26 rfl rfl rfl rfl (HX2.out.2.2.1) rfl ?_))
  intro X3 HN
  have HX3 : Hid (Below w.heap.size w X3 ∧ Box X3 p 26 (ccL c) ∧ Box X3 g 26 (ccL c) ∧ w.heap.size ≤ p ∧ p < g ∧ True) := by
    obtain ⟨hb, b0, b1, l0, l1, _⟩ := HX2.out
    obtain ⟨st, bn⟩ := HN.out
    exact ⟨st.below _ _ (by omega) hb, b0.sto st (by omega), bn, l0, l1, trivial⟩
  clear HN HX2
  go_wp2_with (first | (refine wpC_load rfl isC26 rfl rfl (HX3.out.2.2.1) ?_) | fail)
  refine (c1 _).mono ?_
  rintro e w4 ⟨rfl, hB⟩
  have HX4 : Hid (Below w.heap.size w w4 ∧ Box w4 p 26 (ccL c) ∧ Box w4 g 26 (ccL c) ∧ w.heap.size ≤ p ∧ p < g ∧ True) := by
    obtain ⟨hb, b0, b1, l0, l1, _⟩ := HX3.out
    exact ⟨Below.on hb hB, b0.later hB, b1.later hB, l0, l1, trivial⟩
  clear hB HX3
  have k2 := Box.cell (HX4.out.2.2.1) 2 rfl
  have k3 := Box.cell (HX4.out.2.2.1) 3 rfl
  have k4 := Box.cell (HX4.out.2.2.1) 4 rfl
  rw [hS] at k2
  rw [hA] at k4
  go_upto_region 4 with fail
  go_quiet (fail)
  go_wp2_with fail
  have HI : Hid (slowI c c 0 A0 0) := hinv
  clear hinv
  go_loopw [8, 9] (fun v8 v9 wr => ∃ (d : Cc) (p sm : Int) (i : Nat), v8 = .int .i64 sm ∧ v9 = .int .i64 (i : Int) ∧ i ≤ n ∧ 0 ≤ sm ∧ sm ≤ 1073741824 + 100000 * (i : Int) ∧ Hid (slowI c d p sm i ∧ Below w.heap.size w wr ∧ Box wr g 26 (ccL d) ∧ w.heap.size ≤ g ∧ True))
      (fun _ vi _ => n - (intOf vi).toNat)
  case atStart => exact ⟨c, 0, A0, 0, rfl, rfl, by omega, by omega, by omega, HI.out, by first | exact HX4.out.1 | exact below_drewN HX4.out.1 _ | exact Below.drew HX4.out.1, by first | exact (HX4.out.2.2.1) | exact Box.drewN (HX4.out.2.2.1) _, Nat.le_trans HX4.out.2.2.2.1 (Nat.le_of_lt HX4.out.2.2.2.2.1), trivial⟩
  case round =>
    obtain ⟨d, p_, sm, i, rfl, rfl, hin, hs1, hs2, HR⟩ := hrel
    clear HI HX4 k2 k3 k4
    by_cases hi' : i < n
    · have hlt : (i : Int) < (n : Int) := by omega
      obtain ⟨b, q_, rfl, hcell, hxb⟩ := HP.out.1.later HR.out.2.1 i (by rw [HP.out.2]; exact hi')
      obtain ⟨x, hxx⟩ : ∃ x, xs[i]?.getD 0 = x := ⟨_, rfl⟩
      rw [hxx] at hcell hxb
      unfold I64 at hxb
      clear hxx
      obtain ⟨X, hX⟩ : ∃ X, IntKind.u64.wrap x = X := ⟨_, rfl⟩
      have hX0 : 0 ≤ X ∧ X < 18446744073709551616 := by rw [← hX, IntKind.wrap_u64]; omega
      obtain ⟨e, he⟩ : ∃ e, X.tmod 100000 = e := ⟨_, rfl⟩
      have he0 : 0 ≤ e ∧ e < 100000 := by rw [← he, Int.tmod_eq_emod_of_nonneg hX0.1]; omega
      obtain ⟨p2, y, t2, hI2, hk1, hk2, hd1, hm1, hy, hy2, ht2, htp, htb⟩ := slow_step (e := e) HO.out HR.out.1 (by omega) he0 (by omega)
      have HI2 : Hid (slowI c (rn c.ms (grwC d e) c.ss (grwA d e)) p2 (sm + e) (i + 1)) := hI2
      clear hI2
      have k2 : ∀ W, Calls Try.prog 12 #[ccv d, .int .i64 e, .bool false] W fun e_ w' => e_ = .returned (.tuple #[ccv (rn c.ms (grwC d e) c.ss (grwA d e)), .int .i64 0]) ∧ Below W.heap.size W w' := fun W => slow_ack HR.out.1 he0 W
      have k3 : ∀ W, Calls Try.prog 15 #[ccv (rn c.ms (grwC d e) c.ss (grwA d e))] W fun e w' => e = .returned (.int .i64 0) ∧ Below W.heap.size W w' := fun W => chk_yes _ HI2.out.1 W
      obtain ⟨kk, hkk⟩ : ∃ z, grwC d e = z := ⟨_, rfl⟩
      obtain ⟨aa, haa⟩ : ∃ z, grwA d e = z := ⟨_, rfl⟩
      rw [hkk] at hk1 hk2 hy HI2 k2 k3
      rw [haa] at HI2 k2 k3
      have HM : Hid (d.ms = c.ms) := hm1
      rw [hM, hs] at k2 k3 HI2
      rw [hM] at hk2 HM hy2
      rw [hS] at hy
      obtain ⟨dd, hdd⟩ : ∃ z, d.cw = z := ⟨_, rfl⟩
      rw [hdd] at hk1 hk2 hd1
      have HD : Hid (d.cw = dd) := hdd
      obtain ⟨s2, hss⟩ : ∃ z, sm + e = z := ⟨_, rfl⟩
      rw [hss] at HI2 ht2 
      rw [hS] at ht2
      have hs3 : 0 ≤ s2 ∧ s2 ≤ 1073741824 + 100000 * ((i : Int) + 1) := by omega
      clear hkk haa hdd hm1
      have hbl : b < wr.heap.size := lt_of_cell hcell
      have HV : Hid (Below w.heap.size w wr ∧ Box wr g 26 (ccL d) ∧ w.heap.size ≤ g ∧ True) := HR.out.2
      clear HR
      go_wp2_with (first | (refine wpC_load rfl isC26 rfl rfl (HV.out.2.1) ?_) | fail)
      refine (k2 _).mono ?_
      rintro e_ w41 ⟨rfl, hB⟩
      have HX41 : Hid (Below w.heap.size w w41 ∧ Box w41 g 26 (ccL d) ∧ w.heap.size ≤ g ∧ True) := by
        obtain ⟨hb, b0, l0, _⟩ := HV.out
        exact ⟨Below.on hb hB, b0.later hB, l0, trivial⟩
      clear hB HV
      clear hcell hbl k2
      go_wp2_with (first | (refine wpC_alloc rfl rfl zero26 ?_))
      intro X42 h HN
      have HX42 : Hid (Below w.heap.size w X42 ∧ Box X42 g 26 (ccL d) ∧ Box X42 h 26 (ccL zC) ∧ w.heap.size ≤ g ∧ g < h ∧ True) := by
        obtain ⟨hb, b0, l0, _⟩ := HX41.out
        obtain ⟨hg, hb2, bn⟩ := HN.out
        have z0 := b0.lt
        exact ⟨Below.on hb hb2, b0.later hb2, bn, l0, by omega, trivial⟩
      clear HN HX41
      go_wp2_with (first | (refine wpC_store rfl isC26 rfl rfl rfl rfl (HX42.out.2.2.1) rfl ?_))
      intro X43 HN
      have HX43 : Hid (Below w.heap.size w X43 ∧ Box X43 g 26 (ccL d) ∧ Box X43 h 26 (ccL (rn m kk s aa)) ∧ w.heap.size ≤ g ∧ g < h ∧ True) := by
        obtain ⟨hb, b0, b1, l0, l1, _⟩ := HX42.out
        obtain ⟨st, bn⟩ := HN.out
        exact ⟨st.below _ _ (by omega) hb, b0.sto st (by omega), bn, l0, l1, trivial⟩
      clear HN HX42
      have kh_2 : X43.cell? ⟨h, 2, none⟩ = some (.int .i64 kk) := Box.cell (HX43.out.2.2.1) 2 rfl
      have kg1 := Box.cell (HX43.out.2.1) 1 rfl
      have kg2 := Box.cell (HX43.out.2.1) 2 rfl
      rw [HM.out] at kg1
      rw [HD.out] at kg2
      have q1 : decide (kk < dd) = false := decide_eq_false (by omega)
      have q2 : decide (dd + m < kk) = false := decide_eq_false (by omega)
      go_wp2_with (first | (refine wpC_loadG (by rfl) isC26 rfl rfl (HX43.out.2.2.1) ?_) | fail)
      refine (k3 _).mono ?_
      rintro e_ w44 ⟨rfl, hB⟩
      have HX44 : Hid (Below w.heap.size w w44 ∧ Box w44 g 26 (ccL d) ∧ Box w44 h 26 (ccL (rn m kk s aa)) ∧ w.heap.size ≤ g ∧ g < h ∧ True) := by
        obtain ⟨hb, b0, b1, l0, l1, _⟩ := HX43.out
        exact ⟨Below.on hb hB, b0.later hB, b1.later hB, l0, l1, trivial⟩
      clear hB HX43
      clear kh_2 kg1 kg2 k3
      go_wp2_with (first | (refine wpC_load rfl isC26 rfl rfl (HX44.out.2.2.1) ?_) | (refine wpC_store rfl isC26 rfl rfl rfl rfl (HX44.out.2.1) rfl ?_))
      intro X45 HN
      have HX45 : Hid (Below w.heap.size w X45 ∧ Box X45 g 26 (ccL (rn m kk s aa)) ∧ Box X45 h 26 (ccL (rn m kk s aa)) ∧ w.heap.size ≤ g ∧ g < h ∧ True) := by
        obtain ⟨hb, b0, b1, l0, l1, _⟩ := HX44.out
        obtain ⟨st, bn⟩ := HN.out
        exact ⟨st.below _ _ (by omega) hb, bn, b1.sto st (by omega), l0, l1, trivial⟩
      clear HN HX44
      have kg1 : X45.cell? ⟨g, 1, none⟩ = some (.int .i64 m) := Box.cell (HX45.out.2.1) 1 rfl
      have kg2 : X45.cell? ⟨g, 2, none⟩ = some (.int .i64 kk) := Box.cell (HX45.out.2.1) 2 rfl
      go_upto_region 15 with fail
      go_quiet (fail)
      go_wp2_with fail
      go_roundw
      case rel => exact ⟨rn m kk s aa, p2, s2, i + 1, by go_num, by go_num, by omega, by omega, by push_cast; omega, HI2.out, by first | exact HX45.out.1 | exact below_drewN HX45.out.1 _, by first | exact (HX45.out.2.1) | exact Box.drewN (HX45.out.2.1) _, HX45.out.2.2.2.1, trivial⟩
      case measure => simp [intOf]; omega
    · have HZ : Hid (Below w.heap.size w wr ∧ True) := ⟨HR.out.2.1, trivial⟩
      clear HR
      go_wp2_with fail
      refine (kh.out _).mono ?_
      rintro e w61 ⟨rfl, hB⟩
      have HX61 : Hid (Below w.heap.size w w61 ∧ True) := by
        obtain ⟨hb, _⟩ := HZ.out
        exact ⟨Below.on hb hB, trivial⟩
      clear hB HZ
      go_wp2_with fail
      go_ret
      exact ⟨rfl, HX61.out.1⟩

theorem slow_walk (c : Cc) (A : Option Addr) (n cp : Nat) (xs : List Int) (w : World) (hI : CcI c) (hX : IntsAt w A xs) (hx : xs.length = n) (hnb : n ≤ 9223372036854775807) : Calls Try.prog 6 #[ccv c, .slice A n cp] w fun e w' => e = .returned (.bool true) ∧ Below w.heap.size w w' := by
  cases k : okB c with
  | false => exact slow_no c A n cp (fun W => chk_no c hI k W) w
  | true =>
    have c1 := fun W => chk_yes c k W
    have h := (ok_is k).2
    by_cases h0 : c.cw < c.ss
    · exact slow_0 c A n cp h0 c1 w
    by_cases h1 : 200 < n
    · exact slow_1 c A n cp (by omega) c1 w
    by_cases h2 : 536870912 < c.cw
    · exact slow_2 c A n cp (by omega) c1 w
    exact slow_go c A n cp xs _ _ _ _ rfl rfl rfl rfl w ⟨k, by omega, by omega⟩ (by omega) hX hx (by omega) ⟨k, rfl, rfl, by omega, by omega, by simp, by omega⟩ c1
end Go.Proofs.Ytdmgoplnganlfaa
