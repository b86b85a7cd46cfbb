/- The contract of Curve. -/
import Derived.Test.YtikcjdoeoghoeaaKCheck
namespace Go.Proofs.Ytikcjdoeoghoeaa
open Go.ChangeShapes Go.WideShapes Go.ChangeAt Go.RowKit
set_option linter.unusedVariables false


theorem clamp_in {x l h : Int} (k : l ≤ h) : l ≤ clampI x l h ∧ clampI x l h ≤ h := by unfold clampI; split <;> (try split) <;> (try split) <;> omega
theorem cube_bd {a : Int} (h0 : 0 ≤ a) (h : a ≤ 1000000) : (0 ≤ a * a ∧ a * a ≤ 1000000000000) ∧ 0 ≤ a * a * a ∧ a * a * a ≤ 1000000000000000000 := by
  have h1 : a * a ≤ 1000000 * 1000000 := Int.mul_le_mul h h h0 (by omega)
  have h2 : 0 ≤ a * a := Int.mul_nonneg h0 h0
  have h3 := cube_mono h0 h
  have h4 : 0 ≤ a * a * a := Int.mul_nonneg h2 h0
  omega
theorem curV_bd {a m : Int} (h0 : 0 ≤ a) (h : a ≤ 1000000) (hm : 1 ≤ m ∧ m ≤ 65000) : 0 ≤ curV a m ∧ curV a m ≤ 26000000000000 := by
  have hc := cube_bd h0 h
  unfold curV mulDivI
  rw [if_neg (by omega)]
  have h1 : a * a * a * (4 * m) ≤ 1000000000000000000 * (4 * 65000) := Int.mul_le_mul hc.2.2 (by omega) (by omega) (by omega)
  have h2 : 0 ≤ a * a * a * (4 * m) := Int.mul_nonneg hc.2.1 (by omega)
  have h3 : 0 ≤ a * a * a * (4 * m) / 10000000000 := Int.ediv_nonneg h2 (by omega)
  have h4 : a * a * a * (4 * m) / 10000000000 ≤ 26000000000000 := by omega
  split <;> omega
theorem curD_bd (k t : Int) : -1000000 ≤ curD k t ∧ curD k t ≤ 1000000 := clamp_in (by omega)
theorem curA_bd {d : Int} (h : -1000000 ≤ d ∧ d ≤ 1000000) : 0 ≤ curA d ∧ curA d ≤ 1000000 := by unfold curA; omega

set_option maxRecDepth 100000 in
set_option maxHeartbeats 4000000 in
theorem cur_no (c : Cc) (t : Int) (c1 : ∀ W, Calls Try.prog 11 #[ccv c] W fun e w' => e = .returned (.int .i64 230) ∧ Below W.heap.size W w') (w : World) : Calls Try.prog 13 #[ccv c, .int .i64 t] w fun e w' => e = .returned (.int .i64 0) ∧ Below w.heap.size w w' := by
  go_enter Try.func13, Try.ntmps13
  go_wp2_with (first | (refine wpC_box rfl rfl rfl ?_))
  intro X1 p HN
  have HX1 : Hid (Below w.heap.size w X1 ∧ Box X1 p 26 (ccL c) ∧ w.heap.size ≤ p ∧ True) := by
    have hb := Below.refl w.heap.size w
    obtain ⟨hg, hb2, bn⟩ := HN.out
    have hz := hb.size
    exact ⟨Below.on hb hb2, bn, by omega, trivial⟩
  clear HN 
  go_wp2_with (first | (refine wpC_load rfl isC26 rfl rfl (HX1.out.2.1) ?_) | fail)
  refine (c1 _).mono ?_
  rintro e w2 ⟨rfl, hB⟩
  have HX2 : Hid (Below w.heap.size w w2 ∧ Box w2 p 26 (ccL c) ∧ w.heap.size ≤ p ∧ True) := by
    obtain ⟨hb, b0, l0, _⟩ := HX1.out
    exact ⟨Below.on hb hB, b0.later hB, l0, trivial⟩
  clear hB HX1
  go_wp2_with fail
  go_ret
  exact ⟨rfl, HX2.out.1⟩

set_option maxRecDepth 100000 in
set_option maxHeartbeats 4000000 in
theorem cur_n (c : Cc) (t m wm k s d v r : Int) (a : Int) (ha : -d = a) (hm : c.ms = m) (hw : c.wm = wm) (hk : c.ck = k) (hmb : 1 ≤ m ∧ m ≤ 65000) (hwb : 0 ≤ wm ∧ wm ≤ 1073741824) (hkb : 0 ≤ k ∧ k ≤ 2097151) (hdb : -1000000 ≤ d ∧ d ≤ 1000000) (hd1 : d < 0) (hab : 0 ≤ a ∧ a ≤ 1000000) (hvb : 0 ≤ v ∧ v ≤ 26000000000000) (c1 : ∀ W, Calls Try.prog 11 #[ccv c] W fun e w' => e = .returned (.int .i64 0) ∧ Below W.heap.size W w')(c2 : ∀ W, Calls Try.prog 40 #[.int .i64 t, .int .i64 (-k)] W fun e w' => e = .returned (.int .i64 s) ∧ w' = W)(c3 : ∀ W, Calls Try.prog 39 #[.int .i64 s, .int .i64 (-1000000), .int .i64 1000000] W fun e w' => e = .returned (.int .i64 d) ∧ w' = W) (c4 : ∀ W, Calls Try.prog 41 #[.int .i64 (a * a * a), .int .i64 (4 * m), .int .i64 10000000000] W fun e w' => e = .returned (.int .i64 v) ∧ ∃ n, w' = W.drewN n)(c6 : ∀ W, Calls Try.prog 39 #[.int .i64 (wm - v), .int .i64 0, .int .i64 1073741824] W fun e w' => e = .returned (.int .i64 r) ∧ w' = W) (w : World) : Calls Try.prog 13 #[ccv c, .int .i64 t] w fun e w' => e = .returned (.int .i64 r) ∧ Below w.heap.size w w' := by
  have HA : Hid (-d = a) := ha
  have hmx : (if d < -d then -d else d) = a := by rw [← ha]; split <;> omega
  have hb2 := cube_bd hab.1 hab.2
  have hmm : max d (-d) = a := by rw [← ha]; omega
  have hb3 : 0 ≤ a * a * a ∧ a * a * a ≤ 1000000000000000000 := hb2.2
  have hb4 : 0 ≤ a * a ∧ a * a ≤ 1000000000000 := hb2.1
  have HD : Hid (d < 0) := hd1
  clear ha hb2 hd1
  go_enter Try.func13, Try.ntmps13
  go_wp2_with (first | (refine wpC_box rfl rfl rfl ?_))
  intro X1 p HN
  have HX1 : Hid (Below w.heap.size w X1 ∧ Box X1 p 26 (ccL c) ∧ w.heap.size ≤ p ∧ True) := by
    have hb := Below.refl w.heap.size w
    obtain ⟨hg, hb2, bn⟩ := HN.out
    have hz := hb.size
    exact ⟨Below.on hb hb2, bn, by omega, trivial⟩
  clear HN 
  go_wp2_with (first | (refine wpC_load rfl isC26 rfl rfl (HX1.out.2.1) ?_) | fail)
  refine (c1 _).mono ?_
  rintro e w2 ⟨rfl, hB⟩
  have HX2 : Hid (Below w.heap.size w w2 ∧ Box w2 p 26 (ccL c) ∧ w.heap.size ≤ p ∧ True) := by
    obtain ⟨hb, b0, l0, _⟩ := HX1.out
    exact ⟨Below.on hb hB, b0.later hB, l0, trivial⟩
  clear hB HX1
  have k1 := Box.cell (HX2.out.2.1) 1 rfl
  have k5 := Box.cell (HX2.out.2.1) 5 rfl
  have k7 := Box.cell (HX2.out.2.1) 7 rfl
  rw [hm] at k1
  rw [hw] at k5
  rw [hk] at k7
  clear hm hw hk
  go_wp2_with fail
  refine (c2 _).mono ?_
  rintro e w' ⟨rfl, hq⟩
  obtain rfl := hq.symm
  clear hq
  go_wp2_with fail
  refine (c3 _).mono ?_
  rintro e w' ⟨rfl, hq⟩
  obtain rfl := hq.symm
  clear hq
  clear c1 c2 c3
  go_wp2_with fail
  refine (c4 _).mono ?_
  rintro e w9 ⟨rfl, nn, rfl⟩
  clear c4 hmx hmm
  have hd1 := HD.out
  go_wp2_with fail
  refine (c6 _).mono ?_
  rintro e w' ⟨rfl, hq⟩
  obtain rfl := hq.symm
  clear hq c6
  go_wp2_with fail
  go_ret
  exact ⟨rfl, below_drewN HX2.out.1 nn⟩

set_option maxRecDepth 100000 in
set_option maxHeartbeats 4000000 in
theorem cur_p (c : Cc) (t m wm k s d v r : Int) (a : Int) (ha : d = a) (hm : c.ms = m) (hw : c.wm = wm) (hk : c.ck = k) (hmb : 1 ≤ m ∧ m ≤ 65000) (hwb : 0 ≤ wm ∧ wm ≤ 1073741824) (hkb : 0 ≤ k ∧ k ≤ 2097151) (hdb : -1000000 ≤ d ∧ d ≤ 1000000) (hd1 : 0 ≤ d) (hab : 0 ≤ a ∧ a ≤ 1000000) (hvb : 0 ≤ v ∧ v ≤ 26000000000000) (c1 : ∀ W, Calls Try.prog 11 #[ccv c] W fun e w' => e = .returned (.int .i64 0) ∧ Below W.heap.size W w')(c2 : ∀ W, Calls Try.prog 40 #[.int .i64 t, .int .i64 (-k)] W fun e w' => e = .returned (.int .i64 s) ∧ w' = W)(c3 : ∀ W, Calls Try.prog 39 #[.int .i64 s, .int .i64 (-1000000), .int .i64 1000000] W fun e w' => e = .returned (.int .i64 d) ∧ w' = W) (c4 : ∀ W, Calls Try.prog 41 #[.int .i64 (a * a * a), .int .i64 (4 * m), .int .i64 10000000000] W fun e w' => e = .returned (.int .i64 v) ∧ ∃ n, w' = W.drewN n)(c6 : ∀ W, Calls Try.prog 39 #[.int .i64 (wm + v), .int .i64 0, .int .i64 1073741824] W fun e w' => e = .returned (.int .i64 r) ∧ w' = W) (w : World) : Calls Try.prog 13 #[ccv c, .int .i64 t] w fun e w' => e = .returned (.int .i64 r) ∧ Below w.heap.size w w' := by
  have HA : Hid (d = a) := ha
  have hmx : (if d < -d then -d else d) = a := by rw [← ha]; split <;> omega
  have hb2 := cube_bd hab.1 hab.2
  have hmm : max d (-d) = a := by rw [← ha]; omega
  have hb3 : 0 ≤ a * a * a ∧ a * a * a ≤ 1000000000000000000 := hb2.2
  have hb4 : 0 ≤ a * a ∧ a * a ≤ 1000000000000 := hb2.1
  have HD : Hid (0 ≤ d) := hd1
  clear ha hb2 hd1
  go_enter Try.func13, Try.ntmps13
  go_wp2_with (first | (refine wpC_box rfl rfl rfl ?_))
  intro X1 p HN
  have HX1 : Hid (Below w.heap.size w X1 ∧ Box X1 p 26 (ccL c) ∧ w.heap.size ≤ p ∧ True) := by
    have hb := Below.refl w.heap.size w
    obtain ⟨hg, hb2, bn⟩ := HN.out
    have hz := hb.size
    exact ⟨Below.on hb hb2, bn, by omega, trivial⟩
  clear HN 
  go_wp2_with (first | (refine wpC_load rfl isC26 rfl rfl (HX1.out.2.1) ?_) | fail)
  refine (c1 _).mono ?_
  rintro e w2 ⟨rfl, hB⟩
  have HX2 : Hid (Below w.heap.size w w2 ∧ Box w2 p 26 (ccL c) ∧ w.heap.size ≤ p ∧ True) := by
    obtain ⟨hb, b0, l0, _⟩ := HX1.out
    exact ⟨Below.on hb hB, b0.later hB, l0, trivial⟩
  clear hB HX1
  have k1 := Box.cell (HX2.out.2.1) 1 rfl
  have k5 := Box.cell (HX2.out.2.1) 5 rfl
  have k7 := Box.cell (HX2.out.2.1) 7 rfl
  rw [hm] at k1
  rw [hw] at k5
  rw [hk] at k7
  clear hm hw hk
  go_wp2_with fail
  refine (c2 _).mono ?_
  rintro e w' ⟨rfl, hq⟩
  obtain rfl := hq.symm
  clear hq
  go_wp2_with fail
  refine (c3 _).mono ?_
  rintro e w' ⟨rfl, hq⟩
  obtain rfl := hq.symm
  clear hq
  clear c1 c2 c3
  go_wp2_with fail
  refine (c4 _).mono ?_
  rintro e w9 ⟨rfl, nn, rfl⟩
  clear c4 hmx hmm
  have hd1 := HD.out
  go_wp2_with fail
  refine (c6 _).mono ?_
  rintro e w' ⟨rfl, hq⟩
  obtain rfl := hq.symm
  clear hq c6
  go_wp2_with fail
  go_ret
  exact ⟨rfl, below_drewN HX2.out.1 nn⟩

theorem cur_is (c : Cc) (t : Int) (hI : CcI c) (ht : I64 t) (w : World) : Calls Try.prog 13 #[ccv c, .int .i64 t] w fun e w' => e = .returned (.int .i64 (curR c t)) ∧ Below w.heap.size w w' := by
  unfold curR
  have hkk := hI.ck
  unfold I64 at ht hkk
  cases k : kOk c with
  | false =>
    rw [if_neg (by simp)]
    exact cur_no c t (fun W => kchk_no c hI k W) w
  | true =>
    rw [if_pos rfl]
    obtain ⟨_, h2, h3, _⟩ := kok_out k
    unfold CubK at h2
    unfold ComK at h3
    have c1 := fun W => kchk_ok c k W
    unfold curI
    have hdb := curD_bd c.ck t
    have c2 := fun W => sum_walk t (-c.ck) ht (by omega) W
    have c3 := fun W => clamp_walk (sumI t (-c.ck)) (-1000000) 1000000 W
    have hab := curA_bd hdb
    have hvb := curV_bd hab.1 hab.2 h3.1
    have hcb := cube_bd hab.1 hab.2
    have hmb := h3.1
    obtain ⟨d, hd⟩ : ∃ d, curD c.ck t = d := ⟨_, rfl⟩
    have hd' := hd
    unfold curD at hd'
    rw [hd'] at c3
    rw [hd] at hab hvb hdb hcb ⊢
    clear hd hd'
    have c4 : ∀ W, _ := fun W => share_is (curA d * curA d * curA d) (4 * c.ms) 10000000000 (curV (curA d) c.ms) rfl (by unfold I64; omega) (by unfold I64; omega) (by unfold I64; omega) W
    by_cases hn : d < 0
    · have e : -d = curA d := by unfold curA; omega
      exact cur_n c t c.ms c.wm c.ck _ d _ _ _ e rfl rfl rfl h3.1 h2.1 h2.2.2.2.1 hdb hn hab hvb c1 c2 c3 c4 (fun W => by
        have := clamp_walk (c.wm - curV (curA d) c.ms) 0 1073741824 W
        unfold curW; rw [if_pos hn]; exact this) w
    · have e : d = curA d := by unfold curA; omega
      exact cur_p c t c.ms c.wm c.ck _ d _ _ _ e rfl rfl rfl h3.1 h2.1 h2.2.2.2.1 hdb (by omega) hab hvb c1 c2 c3 c4 (fun W => by
        have := clamp_walk (c.wm + curV (curA d) c.ms) 0 1073741824 W
        unfold curW; rw [if_neg hn]; exact this) w
end Go.Proofs.Ytikcjdoeoghoeaa
