/- The contract of the document's Curve. -/
import Derived.Test.YtikcjdoeoghoeaaRefChk
import Derived.Test.YtikcjdoeoghoeaaKCurve
namespace Go.Proofs.Ytikcjdoeoghoeaa
open Go.ChangeShapes Go.WideShapes Go.ChangeAt Go.RowKit
set_option linter.unusedVariables false


theorem rchk_ok (c : Cc) (k : kOk c = true) (w : World) : Calls Try.prog 12 #[ccv c] w fun e w' => e = .returned (.int .i64 0) ∧ Below w.heap.size w w' := by
  have := rchk_is c w
  unfold chkK at this
  rw [if_pos k] at this
  exact this
theorem rchk_no (c : Cc) (hI : CcI c) (k : kOk c = false) (w : World) : Calls Try.prog 12 #[ccv c] w fun e w' => e = .returned (.int .i64 230) ∧ Below w.heap.size w w' := by
  have := rchk_is c w
  unfold chkK at this
  rw [if_neg (by rw [k]; simp)] at this
  exact this
theorem rmd_is (a b c y : Int) (hy : mulDivI a b c = y) (ha : 0 ≤ a ∧ a ≤ 9223372036854775807) (hb : 0 ≤ b ∧ b ≤ 9223372036854775807) (hc : 1 ≤ c ∧ c ≤ 9223372036854775807) (w : World) : Calls Try.prog 30 #[.int .i64 a, .int .i64 b, .int .i64 c] w fun e w' => e = .returned (.tuple #[.int .i64 y, .int .i64 0]) ∧ ∃ n, w' = w.drewN n := by
  have := rmuldiv_walk a b c (by omega) (by omega) (by omega) w
  rw [hy, no_er ha.1 hb.1 hc.1] at this
  exact this

set_option maxRecDepth 100000 in
set_option maxHeartbeats 4000000 in
theorem rcur_no (c : Cc) (t : Int) (c1 : ∀ W, Calls Try.prog 12 #[ccv c] W fun e w' => e = .returned (.int .i64 230) ∧ Below W.heap.size W w') (w : World) : Calls Try.prog 14 #[ccv c, .int .i64 t] w fun e w' => e = .returned (.int .i64 0) ∧ Below w.heap.size w w' := by
  go_enter Try.func14, Try.ntmps14
  go_wp2_with (first | (refine wpC_box rfl rfl rfl ?_))
  intro X1 p HN
  have HX1 : Hid (Below w.heap.size w X1 ∧ Box X1 p 26 (ccL c) ∧ w.heap.size ≤ p ∧ True) := by
    have hb := Below.refl w.heap.size w
    obtain ⟨hg, hb2, bn⟩ := HN.out
    have hz := hb.size
    exact ⟨Below.on hb hb2, bn, by omega, trivial⟩
  clear HN 
  go_wp2_with (first | (refine wpC_load rfl isC26 rfl rfl (HX1.out.2.1) ?_) | fail)
  refine (c1 _).mono ?_
  rintro e w2 ⟨rfl, hB⟩
  have HX2 : Hid (Below w.heap.size w w2 ∧ Box w2 p 26 (ccL c) ∧ w.heap.size ≤ p ∧ True) := by
    obtain ⟨hb, b0, l0, _⟩ := HX1.out
    exact ⟨Below.on hb hB, b0.later hB, l0, trivial⟩
  clear hB HX1
  go_wp2_with fail
  go_ret
  exact ⟨rfl, HX2.out.1⟩

set_option maxRecDepth 100000 in
set_option maxHeartbeats 4000000 in
theorem rcur_n (c : Cc) (t m wm k s d v r : Int) (a : Int) (ha : -d = a) (hm : c.ms = m) (hw : c.wm = wm) (hk : c.ck = k) (hmb : 1 ≤ m ∧ m ≤ 65000) (hwb : 0 ≤ wm ∧ wm ≤ 1073741824) (hkb : 0 ≤ k ∧ k ≤ 2097151) (hdb : -1000000 ≤ d ∧ d ≤ 1000000) (hd1 : d < 0) (hab : 0 ≤ a ∧ a ≤ 1000000) (hvb : 0 ≤ v ∧ v ≤ 26000000000000) (mn : Int) (hmn : (if wm < v then wm else v) = mn) (hmb2 : 0 ≤ mn ∧ mn ≤ wm) (c1 : ∀ W, Calls Try.prog 12 #[ccv c] W fun e w' => e = .returned (.int .i64 0) ∧ Below W.heap.size W w')(c2 : ∀ W, Calls Try.prog 33 #[.int .i64 t, .int .i64 (-k)] W fun e w' => e = .returned (.int .i64 s) ∧ w' = W)(c3 : ∀ W, Calls Try.prog 32 #[.int .i64 s, .int .i64 (-1000000), .int .i64 1000000] W fun e w' => e = .returned (.int .i64 d) ∧ w' = W) (c4 : ∀ W, Calls Try.prog 30 #[.int .i64 (a * a * a), .int .i64 (4 * m), .int .i64 10000000000] W fun e w' => e = .returned (.tuple #[.int .i64 v, .int .i64 0]) ∧ ∃ n, w' = W.drewN n)(c6 : ∀ W, Calls Try.prog 32 #[.int .i64 (wm - mn), .int .i64 0, .int .i64 1073741824] W fun e w' => e = .returned (.int .i64 r) ∧ w' = W) (w : World) : Calls Try.prog 14 #[ccv c, .int .i64 t] w fun e w' => e = .returned (.int .i64 r) ∧ Below w.heap.size w w' := by
  have HA : Hid (-d = a) := ha
  have hmx : (if d < -d then -d else d) = a := by rw [← ha]; split <;> omega
  have hb2 := cube_bd hab.1 hab.2
  have hmm : max d (-d) = a := by rw [← ha]; omega
  have hb3 : 0 ≤ a * a * a ∧ a * a * a ≤ 1000000000000000000 := hb2.2
  have hb4 : 0 ≤ a * a ∧ a * a ≤ 1000000000000 := hb2.1
  have HD : Hid (d < 0) := hd1
  clear ha hb2 hd1
  have hmn1 : (if wm < v then wm else v) = mn := hmn
  have hmn2 : min v wm = mn := by rw [← hmn]; split <;> omega
  clear hmn
  go_enter Try.func14, Try.ntmps14
  go_wp2_with (first | (refine wpC_box rfl rfl rfl ?_))
  intro X1 p HN
  have HX1 : Hid (Below w.heap.size w X1 ∧ Box X1 p 26 (ccL c) ∧ w.heap.size ≤ p ∧ True) := by
    have hb := Below.refl w.heap.size w
    obtain ⟨hg, hb2, bn⟩ := HN.out
    have hz := hb.size
    exact ⟨Below.on hb hb2, bn, by omega, trivial⟩
  clear HN 
  go_wp2_with (first | (refine wpC_load rfl isC26 rfl rfl (HX1.out.2.1) ?_) | fail)
  refine (c1 _).mono ?_
  rintro e w2 ⟨rfl, hB⟩
  have HX2 : Hid (Below w.heap.size w w2 ∧ Box w2 p 26 (ccL c) ∧ w.heap.size ≤ p ∧ True) := by
    obtain ⟨hb, b0, l0, _⟩ := HX1.out
    exact ⟨Below.on hb hB, b0.later hB, l0, trivial⟩
  clear hB HX1
  have k1 := Box.cell (HX2.out.2.1) 1 rfl
  have k5 := Box.cell (HX2.out.2.1) 5 rfl
  have k7 := Box.cell (HX2.out.2.1) 7 rfl
  rw [hm] at k1
  rw [hw] at k5
  rw [hk] at k7
  clear hm hw hk
  go_wp2_with fail
  refine (c2 _).mono ?_
  rintro e w' ⟨rfl, hq⟩
  obtain rfl := hq.symm
  clear hq
  go_wp2_with fail
  refine (c3 _).mono ?_
  rintro e w' ⟨rfl, hq⟩
  obtain rfl := hq.symm
  clear hq
  clear c1 c2 c3
  go_wp2_with fail
  refine (c4 _).mono ?_
  rintro e w9 ⟨rfl, nn, rfl⟩
  clear c4 hmx hmm
  have hd1 := HD.out
  go_wp2_with fail
  refine (c6 _).mono ?_
  rintro e w' ⟨rfl, hq⟩
  obtain rfl := hq.symm
  clear hq c6
  go_wp2_with fail
  go_ret
  exact ⟨rfl, below_drewN HX2.out.1 nn⟩

set_option maxRecDepth 100000 in
set_option maxHeartbeats 4000000 in
theorem rcur_p (c : Cc) (t m wm k s d v r : Int) (a : Int) (ha : d = a) (hm : c.ms = m) (hw : c.wm = wm) (hk : c.ck = k) (hmb : 1 ≤ m ∧ m ≤ 65000) (hwb : 0 ≤ wm ∧ wm ≤ 1073741824) (hkb : 0 ≤ k ∧ k ≤ 2097151) (hdb : -1000000 ≤ d ∧ d ≤ 1000000) (hd1 : 0 ≤ d) (hab : 0 ≤ a ∧ a ≤ 1000000) (hvb : 0 ≤ v ∧ v ≤ 26000000000000) (c1 : ∀ W, Calls Try.prog 12 #[ccv c] W fun e w' => e = .returned (.int .i64 0) ∧ Below W.heap.size W w')(c2 : ∀ W, Calls Try.prog 33 #[.int .i64 t, .int .i64 (-k)] W fun e w' => e = .returned (.int .i64 s) ∧ w' = W)(c3 : ∀ W, Calls Try.prog 32 #[.int .i64 s, .int .i64 (-1000000), .int .i64 1000000] W fun e w' => e = .returned (.int .i64 d) ∧ w' = W) (c4 : ∀ W, Calls Try.prog 30 #[.int .i64 (a * a * a), .int .i64 (4 * m), .int .i64 10000000000] W fun e w' => e = .returned (.tuple #[.int .i64 v, .int .i64 0]) ∧ ∃ n, w' = W.drewN n)(c5 : ∀ W, Calls Try.prog 33 #[.int .i64 wm, .int .i64 v] W fun e w' => e = .returned (.int .i64 (wm + v)) ∧ w' = W)(c6 : ∀ W, Calls Try.prog 32 #[.int .i64 (wm + v), .int .i64 0, .int .i64 1073741824] W fun e w' => e = .returned (.int .i64 r) ∧ w' = W) (w : World) : Calls Try.prog 14 #[ccv c, .int .i64 t] w fun e w' => e = .returned (.int .i64 r) ∧ Below w.heap.size w w' := by
  have HA : Hid (d = a) := ha
  have hmx : (if d < -d then -d else d) = a := by rw [← ha]; split <;> omega
  have hb2 := cube_bd hab.1 hab.2
  have hmm : max d (-d) = a := by rw [← ha]; omega
  have hb3 : 0 ≤ a * a * a ∧ a * a * a ≤ 1000000000000000000 := hb2.2
  have hb4 : 0 ≤ a * a ∧ a * a ≤ 1000000000000 := hb2.1
  have HD : Hid (0 ≤ d) := hd1
  clear ha hb2 hd1
  go_enter Try.func14, Try.ntmps14
  go_wp2_with (first | (refine wpC_box rfl rfl rfl ?_))
  intro X1 p HN
  have HX1 : Hid (Below w.heap.size w X1 ∧ Box X1 p 26 (ccL c) ∧ w.heap.size ≤ p ∧ True) := by
    have hb := Below.refl w.heap.size w
    obtain ⟨hg, hb2, bn⟩ := HN.out
    have hz := hb.size
    exact ⟨Below.on hb hb2, bn, by omega, trivial⟩
  clear HN 
  go_wp2_with (first | (refine wpC_load rfl isC26 rfl rfl (HX1.out.2.1) ?_) | fail)
  refine (c1 _).mono ?_
  rintro e w2 ⟨rfl, hB⟩
  have HX2 : Hid (Below w.heap.size w w2 ∧ Box w2 p 26 (ccL c) ∧ w.heap.size ≤ p ∧ True) := by
    obtain ⟨hb, b0, l0, _⟩ := HX1.out
    exact ⟨Below.on hb hB, b0.later hB, l0, trivial⟩
  clear hB HX1
  have k1 := Box.cell (HX2.out.2.1) 1 rfl
  have k5 := Box.cell (HX2.out.2.1) 5 rfl
  have k7 := Box.cell (HX2.out.2.1) 7 rfl
  rw [hm] at k1
  rw [hw] at k5
  rw [hk] at k7
  clear hm hw hk
  go_wp2_with fail
  refine (c2 _).mono ?_
  rintro e w' ⟨rfl, hq⟩
  obtain rfl := hq.symm
  clear hq
  go_wp2_with fail
  refine (c3 _).mono ?_
  rintro e w' ⟨rfl, hq⟩
  obtain rfl := hq.symm
  clear hq
  clear c1 c2 c3
  go_wp2_with fail
  refine (c4 _).mono ?_
  rintro e w9 ⟨rfl, nn, rfl⟩
  clear c4 hmx hmm
  have hd1 := HD.out
  go_wp2_with fail
  refine (c5 _).mono ?_
  rintro e w' ⟨rfl, hq⟩
  obtain rfl := hq.symm
  clear hq c5
  go_wp2_with fail
  refine (c6 _).mono ?_
  rintro e w' ⟨rfl, hq⟩
  obtain rfl := hq.symm
  clear hq c6
  go_wp2_with fail
  go_ret
  exact ⟨rfl, below_drewN HX2.out.1 nn⟩

theorem rcur_is (c : Cc) (t : Int) (hI : CcI c) (ht : I64 t) (w : World) : Calls Try.prog 14 #[ccv c, .int .i64 t] w fun e w' => e = .returned (.int .i64 (curR c t)) ∧ Below w.heap.size w w' := by
  unfold curR
  have hkk := hI.ck
  unfold I64 at ht hkk
  cases k : kOk c with
  | false =>
    rw [if_neg (by simp)]
    exact rcur_no c t (fun W => rchk_no c hI k W) w
  | true =>
    rw [if_pos rfl]
    obtain ⟨_, h2, h3, _⟩ := kok_out k
    unfold CubK at h2
    unfold ComK at h3
    have c1 := fun W => rchk_ok c k W
    unfold curI
    have hdb := curD_bd c.ck t
    have c2 := fun W => rsum_walk t (-c.ck) ht (by omega) W
    have c3 := fun W => rclamp_walk (sumI t (-c.ck)) (-1000000) 1000000 W
    have hab := curA_bd hdb
    have hvb := curV_bd hab.1 hab.2 h3.1
    have hcb := cube_bd hab.1 hab.2
    have hmb := h3.1
    obtain ⟨d, hd⟩ : ∃ d, curD c.ck t = d := ⟨_, rfl⟩
    have hd' := hd
    unfold curD at hd'
    rw [hd'] at c3
    rw [hd] at hab hvb hdb hcb ⊢
    clear hd hd'
    have c4 : ∀ W, _ := fun W => rmd_is (curA d * curA d * curA d) (4 * c.ms) 10000000000 (curV (curA d) c.ms) rfl ⟨hcb.2.1, by omega⟩ (by omega) (by omega) W
    by_cases hn : d < 0
    · have e : -d = curA d := by unfold curA; omega
      exact rcur_n c t c.ms c.wm c.ck _ d _ _ _ e rfl rfl rfl h3.1 h2.1 h2.2.2.2.1 hdb hn hab hvb _ rfl (by split <;> omega) c1 c2 c3 c4 (fun W => by
        have := rclamp_walk (c.wm - (if c.wm < curV (curA d) c.ms then c.wm else curV (curA d) c.ms)) 0 1073741824 W
        rw [show curW d c.wm (curV (curA d) c.ms) = clampI (c.wm - (if c.wm < curV (curA d) c.ms then c.wm else curV (curA d) c.ms)) 0 1073741824 from by
          unfold curW clampI; rw [if_pos hn]; split <;> (try split) <;> (try split) <;> (try split) <;> (try split) <;> omega]
        exact this) w
    · have e : d = curA d := by unfold curA; omega
      exact rcur_p c t c.ms c.wm c.ck _ d _ _ _ e rfl rfl rfl h3.1 h2.1 h2.2.2.2.1 hdb (by omega) hab hvb c1 c2 c3 c4 (fun W => by
        have := rsum_walk c.wm (curV (curA d) c.ms) (by omega) (by omega) W
        rw [show sumI c.wm (curV (curA d) c.ms) = c.wm + curV (curA d) c.ms from by unfold sumI; rw [if_neg (by omega), if_neg (by omega)]] at this
        exact this) (fun W => by
        have := rclamp_walk (c.wm + curV (curA d) c.ms) 0 1073741824 W
        unfold curW; rw [if_neg hn]; exact this) w
end Go.Proofs.Ytikcjdoeoghoeaa
