/- The contracts of Wait. -/
import Derived.Test.YtliiogafemlagaaCheck
import Derived.Test.YtliiogafemlagaaRCheck
namespace Go.Proofs.Ytliiogafemlagaa
open Go.ChangeShapes Go.WideShapes Go.ChangeAt Go.RowKit Go.Shelf
set_option linter.unusedVariables false
set_option linter.unusedSimpArgs false
attribute [local go_sem] Oper.semAt_some


set_option maxRecDepth 100000 in
set_option maxHeartbeats 4000000 in
theorem dbl_walk (x n : Int) (hn : 0 ≤ n ∧ n ≤ 100) {d : Int} (hd : dblI (min x 1125899906842624) n = d) (w : World) : Calls Try.prog 33 #[.int .i64 x, .int .i64 n] w fun e w' => e = .returned (.int .i64 d) ∧ w' = w := by
  subst hd
  unfold dblI
  obtain ⟨t, ht⟩ : ∃ t, min x 1125899906842624 = t := ⟨_, rfl⟩
  have hle : t ≤ 1125899906842624 := by omega
  have hm1 := fun W => min2 ht W
  rw [ht]
  clear ht
  by_cases h : t ≤ 0
  · rw [if_pos h]
    go_enter Try.func33, Try.ntmps33
    go_wp2_with fail
    go_ret
    exact ⟨rfl, rfl⟩
  · rw [if_neg h]
    obtain ⟨k, rfl⟩ : ∃ k : Nat, n = (k : Int) := ⟨n.toNat, by omega⟩
    have hr : Hid (Ending.returned (.int .i64 (itD (k : Int).toNat t)) = Ending.returned (.int .i64 (itD k t))) := by unfold Hid; rw [Int.toNat_natCast]
    rw [hr.out]
    clear hr
    go_enter Try.func33, Try.ntmps33
    go_wp2_with fail
    clear hm1
    go_loop [0, 11] (fun v0 v11 => ∃ i : Nat, v0 = .int .i64 (itD i t) ∧ v11 = .int .i64 i ∧ i ≤ k)
      (fun _ v11 => k - (intOf v11).toNat)
    case atStart => exact ⟨0, rfl, rfl, Nat.zero_le _⟩
    case round =>
      obtain ⟨i, rfl, rfl, hi⟩ := hrel
      have hb := itD_bd (t := t) ⟨by omega, hle⟩ i
      have hn : min (2 * itD i t) 1125899906842624 = itD (i + 1) t := rfl
      obtain ⟨y, hy⟩ : ∃ y, itD i t = y := ⟨_, rfl⟩
      obtain ⟨z, hz⟩ : ∃ z, itD (i + 1) t = z := ⟨_, rfl⟩
      have HZ : Hid (itD (i + 1) t = z) := hz
      have HY : Hid (itD i t = y) := hy
      rw [hy] at hb hn ⊢
      rw [hz] at hn
      have hm2 := fun W => min2 hn W
      clear hn hz hy
      by_cases hlt : i < k
      · have hlt' : (i : Int) < (k : Int) := by omega
        go_wp2_with fail
        go_round
        case rel => exact ⟨i + 1, by rw [HZ.out], by go_num, by omega⟩
        case measure => simp [intOf]; omega
      · obtain rfl : i = k := by omega
        go_wp2_with fail
        go_ret
        exact ⟨by rw [HY.out]; rfl, rfl⟩

set_option maxRecDepth 100000 in
set_option maxHeartbeats 4000000 in
theorem wai_no (p : Wn) (x y z : Int) (c1 : ∀ W, Calls Try.prog 8 #[agv (wnL p)] W fun e w' => e = .returned (.int .i64 230) ∧ Below W.heap.size W w')  (w : World) : Calls Try.prog 21 #[agv (wnL p), .int .i64 x, .int .i64 y, .int .i64 z] w fun e w' => e = .returned (.int .i64 0) ∧ Below w.heap.size w w' := by
  go_enter Try.func21, Try.ntmps21
  go_wp2_with (first | (refine wpS_box rfl rfl rfl ?_))
  intro X1 g HN
  have HX1 : Hid (Below w.heap.size w X1 ∧ Box X1 g 23 (wnL p) ∧ w.heap.size ≤ g ∧ True) := by
    have hb := Below.refl w.heap.size w
    obtain ⟨hg, hb2, bn⟩ := HN.out
    have hz := hb.size
    exact ⟨Below.on hb hb2, bn, by omega, trivial⟩
  clear HN 
  go_wp2_with (first | (refine wpS_load rfl rfl rfl (HX1.out.2.1) isS23 ?_) | fail)
  refine (c1 _).mono ?_
  rintro e w2 ⟨rfl, hB⟩
  have HX2 : Hid (Below w.heap.size w w2 ∧ Box w2 g 23 (wnL p) ∧ w.heap.size ≤ g ∧ True) := by
    obtain ⟨hb, b0, l0, _⟩ := HX1.out
    exact ⟨Below.on hb hB, b0.later hB, l0, trivial⟩
  clear hB HX1
  go_wp2_with fail
  go_ret
  exact ⟨rfl, HX2.out.1⟩

set_option maxRecDepth 100000 in
set_option maxHeartbeats 4000000 in
theorem rwai_no (p : Wn) (x y z : Int) (c1 : ∀ W, Calls Try.prog 17 #[agv (wnL p)] W fun e w' => e = .returned (.int .i64 230) ∧ Below W.heap.size W w')  (w : World) : Calls Try.prog 22 #[agv (wnL p), .int .i64 x, .int .i64 y, .int .i64 z] w fun e w' => e = .returned (.int .i64 0) ∧ Below w.heap.size w w' := by
  go_enter Try.func22, Try.ntmps22
  go_wp2_with (first | (refine wpS_box rfl rfl rfl ?_))
  intro X1 g HN
  have HX1 : Hid (Below w.heap.size w X1 ∧ Box X1 g 23 (wnL p) ∧ w.heap.size ≤ g ∧ True) := by
    have hb := Below.refl w.heap.size w
    obtain ⟨hg, hb2, bn⟩ := HN.out
    have hz := hb.size
    exact ⟨Below.on hb hb2, bn, by omega, trivial⟩
  clear HN 
  go_wp2_with (first | (refine wpS_load rfl rfl rfl (HX1.out.2.1) isS23 ?_) | fail)
  refine (c1 _).mono ?_
  rintro e w2 ⟨rfl, hB⟩
  have HX2 : Hid (Below w.heap.size w w2 ∧ Box w2 g 23 (wnL p) ∧ w.heap.size ≤ g ∧ True) := by
    obtain ⟨hb, b0, l0, _⟩ := HX1.out
    exact ⟨Below.on hb hB, b0.later hB, l0, trivial⟩
  clear hB HX1
  go_wp2_with fail
  go_ret
  exact ⟨rfl, HX2.out.1⟩

set_option maxRecDepth 100000 in
set_option maxHeartbeats 4000000 in
theorem wai_y (p : Wn) (x y z d u : Int) (c1 : ∀ W, Calls Try.prog 8 #[agv (wnL p)] W fun e w' => e = .returned (.int .i64 0) ∧ Below W.heap.size W w') (c2 : ∀ W, Calls Try.prog 33 #[.int .i64 x, .int .i64 p.tr] W fun e w' => e = .returned (.int .i64 d) ∧ w' = W) (c3 : ∀ W, Calls Try.prog 32 #[.int .i64 d, .int .i64 y, .int .i64 z] W fun e w' => e = .returned (.int .i64 u) ∧ w' = W)  (w : World) : Calls Try.prog 21 #[agv (wnL p), .int .i64 x, .int .i64 y, .int .i64 z] w fun e w' => e = .returned (.int .i64 u) ∧ Below w.heap.size w w' := by
  go_enter Try.func21, Try.ntmps21
  go_wp2_with (first | (refine wpS_box rfl rfl rfl ?_))
  intro X1 g HN
  have HX1 : Hid (Below w.heap.size w X1 ∧ Box X1 g 23 (wnL p) ∧ w.heap.size ≤ g ∧ True) := by
    have hb := Below.refl w.heap.size w
    obtain ⟨hg, hb2, bn⟩ := HN.out
    have hz := hb.size
    exact ⟨Below.on hb hb2, bn, by omega, trivial⟩
  clear HN 
  go_wp2_with (first | (refine wpS_load rfl rfl rfl (HX1.out.2.1) isS23 ?_) | fail)
  refine (c1 _).mono ?_
  rintro e w2 ⟨rfl, hB⟩
  have HX2 : Hid (Below w.heap.size w w2 ∧ Box w2 g 23 (wnL p) ∧ w.heap.size ≤ g ∧ True) := by
    obtain ⟨hb, b0, l0, _⟩ := HX1.out
    exact ⟨Below.on hb hB, b0.later hB, l0, trivial⟩
  clear hB HX1
  have k6 := Box.cell (HX2.out.2.1) 6 rfl
  go_wp2_with fail
  refine (c2 _).mono ?_
  rintro e w' ⟨rfl, hq⟩
  obtain rfl := hq.symm
  clear hq
  go_wp2_with fail
  refine (c3 _).mono ?_
  rintro e w' ⟨rfl, hq⟩
  obtain rfl := hq.symm
  clear hq
  go_wp2_with fail
  go_ret
  exact ⟨rfl, HX2.out.1⟩

set_option maxRecDepth 100000 in
set_option maxHeartbeats 4000000 in
theorem rwai_a (p : Wn) (x y z : Int) {t : Int} (ht : min x 1125899906842624 = t) (c1 : ∀ W, Calls Try.prog 17 #[agv (wnL p)] W fun e w' => e = .returned (.int .i64 0) ∧ Below W.heap.size W w') (h : t ≤ 0) (hb : 0 ≤ p.tr ∧ p.tr ≤ 100) {u : Int} (c3 : ∀ W, Calls Try.prog 34 #[.int .i64 t, .int .i64 y, .int .i64 z] W fun e w' => e = .returned (.int .i64 u) ∧ w' = W) (w : World) : Calls Try.prog 22 #[agv (wnL p), .int .i64 x, .int .i64 y, .int .i64 z] w fun e w' => e = .returned (.int .i64 u) ∧ Below w.heap.size w w' := by
  have hm1 := fun W => min2 ht W
  clear ht
  go_enter Try.func22, Try.ntmps22
  go_wp2_with (first | (refine wpS_box rfl rfl rfl ?_))
  intro X1 g HN
  have HX1 : Hid (Below w.heap.size w X1 ∧ Box X1 g 23 (wnL p) ∧ w.heap.size ≤ g ∧ True) := by
    have hb := Below.refl w.heap.size w
    obtain ⟨hg, hb2, bn⟩ := HN.out
    have hz := hb.size
    exact ⟨Below.on hb hb2, bn, by omega, trivial⟩
  clear HN 
  go_wp2_with (first | (refine wpS_load rfl rfl rfl (HX1.out.2.1) isS23 ?_) | fail)
  refine (c1 _).mono ?_
  rintro e w2 ⟨rfl, hB⟩
  have HX2 : Hid (Below w.heap.size w w2 ∧ Box w2 g 23 (wnL p) ∧ w.heap.size ≤ g ∧ True) := by
    obtain ⟨hb, b0, l0, _⟩ := HX1.out
    exact ⟨Below.on hb hB, b0.later hB, l0, trivial⟩
  clear hB HX1
  have k6 := Box.cell (HX2.out.2.1) 6 rfl
  go_wp2_with fail
  go_loop [9, 10] (fun v9 v10 => v9 = .int .i64 t ∧ v10 = .int .i64 0) (fun _ _ => 0)
  case atStart => exact ⟨rfl, rfl⟩
  case round =>
    obtain ⟨rfl, rfl⟩ := hrel
    have hnz : ¬ 0 < t := by omega
    by_cases hz : 0 < p.tr
    · skip
      go_wp2_with fail
      refine (c3 _).mono ?_
      rintro e w' ⟨rfl, hq⟩
      obtain rfl := hq.symm
      clear hq
      go_wp2_with fail
      go_ret
      exact ⟨rfl, HX2.out.1⟩
    · skip
      go_wp2_with fail
      refine (c3 _).mono ?_
      rintro e w' ⟨rfl, hq⟩
      obtain rfl := hq.symm
      clear hq
      go_wp2_with fail
      go_ret
      exact ⟨rfl, HX2.out.1⟩

set_option maxRecDepth 100000 in
set_option maxHeartbeats 4000000 in
theorem rwai_b (p : Wn) (x y z : Int) {t : Int} (ht : min x 1125899906842624 = t) (c1 : ∀ W, Calls Try.prog 17 #[agv (wnL p)] W fun e w' => e = .returned (.int .i64 0) ∧ Below W.heap.size W w') (h : 0 < t) (k : Nat) (hk : p.tr = (k : Int)) (hk2 : k ≤ 100) {u : Int} (c3 : ∀ W, Calls Try.prog 34 #[.int .i64 (itD k t), .int .i64 y, .int .i64 z] W fun e w' => e = .returned (.int .i64 u) ∧ w' = W) (w : World) : Calls Try.prog 22 #[agv (wnL p), .int .i64 x, .int .i64 y, .int .i64 z] w fun e w' => e = .returned (.int .i64 u) ∧ Below w.heap.size w w' := by
  have hle : t ≤ 1125899906842624 := by omega
  have hm1 := fun W => min2 ht W
  clear ht
  have HK : Hid (p.tr = (k : Int)) := hk
  clear hk
  go_enter Try.func22, Try.ntmps22
  go_wp2_with (first | (refine wpS_box rfl rfl rfl ?_))
  intro X1 g HN
  have HX1 : Hid (Below w.heap.size w X1 ∧ Box X1 g 23 (wnL p) ∧ w.heap.size ≤ g ∧ True) := by
    have hb := Below.refl w.heap.size w
    obtain ⟨hg, hb2, bn⟩ := HN.out
    have hz := hb.size
    exact ⟨Below.on hb hb2, bn, by omega, trivial⟩
  clear HN 
  go_wp2_with (first | (refine wpS_load rfl rfl rfl (HX1.out.2.1) isS23 ?_) | fail)
  refine (c1 _).mono ?_
  rintro e w2 ⟨rfl, hB⟩
  have HX2 : Hid (Below w.heap.size w w2 ∧ Box w2 g 23 (wnL p) ∧ w.heap.size ≤ g ∧ True) := by
    obtain ⟨hb, b0, l0, _⟩ := HX1.out
    exact ⟨Below.on hb hB, b0.later hB, l0, trivial⟩
  clear hB HX1
  have k6 := Box.cell (HX2.out.2.1) 6 rfl
  rw [HK.out] at k6
  go_wp2_with fail
  clear hm1
  go_loop [9, 10] (fun v9 v10 => ∃ i : Nat, v9 = .int .i64 (itD i t) ∧ v10 = .int .i64 i ∧ i ≤ k)
    (fun _ v10 => k - (intOf v10).toNat)
  case atStart => exact ⟨0, rfl, rfl, Nat.zero_le _⟩
  case round =>
    obtain ⟨i, rfl, rfl, hi⟩ := hrel
    have hb := itD_bd (t := t) ⟨by omega, hle⟩ i
    by_cases hlt : i < k
    · have hn : min (2 * itD i t) 1125899906842624 = itD (i + 1) t := rfl
      obtain ⟨q, hy⟩ : ∃ q, itD i t = q := ⟨_, rfl⟩
      obtain ⟨v, hz⟩ : ∃ v, itD (i + 1) t = v := ⟨_, rfl⟩
      have HZ : Hid (itD (i + 1) t = v) := hz
      rw [hy] at hb hn ⊢
      rw [hz] at hn
      have hm2 := fun W => min2 hn W
      clear hn hz hy
      have hlt' : (i : Int) < (k : Int) := by omega
      go_wp2_with fail
      go_round
      case rel => exact ⟨i + 1, by rw [HZ.out], by go_num, by omega⟩
      case measure => simp [intOf]; omega
    · obtain rfl : i = k := by omega
      obtain ⟨q, hy⟩ : ∃ q, itD i t = q := ⟨_, rfl⟩
      rw [hy] at c3 ⊢
      go_wp2_with fail
      refine (c3 _).mono ?_
      rintro e w' ⟨rfl, hq⟩
      obtain rfl := hq.symm
      clear hq
      go_wp2_with fail
      go_ret
      exact ⟨rfl, HX2.out.1⟩

theorem wai_is (p : Wn) (x y z : Int) {u : Int} (hu : waiI p x y z = u) (w : World) : Calls Try.prog 21 #[agv (wnL p), .int .i64 x, .int .i64 y, .int .i64 z] w fun e' w' => e' = .returned (.int .i64 u) ∧ Below w.heap.size w w' := by
  subst hu
  unfold waiI
  cases k : okB p with
  | false => simp only [Bool.false_eq_true, if_false]; exact wai_no p x y z (fun W => chk_is p (by unfold chkE; rw [if_neg (by simp [k])]) W) w
  | true =>
    simp only [if_true]
    have ho := ok_out k
    unfold Ok at ho
    have c1 := fun W => chk_is p (e := 0) (by unfold chkE; rw [if_pos k]) W
    exact wai_y p x y z _ _ c1 (fun W => dbl_walk x p.tr (by omega) rfl W) (fun W => clamp_walk _ _ _ W) w

theorem rwai_is (p : Wn) (x y z : Int) {u : Int} (hu : waiI p x y z = u) (w : World) : Calls Try.prog 22 #[agv (wnL p), .int .i64 x, .int .i64 y, .int .i64 z] w fun e' w' => e' = .returned (.int .i64 u) ∧ Below w.heap.size w w' := by
  subst hu
  unfold waiI
  cases k : okB p with
  | false => simp only [Bool.false_eq_true, if_false]; exact rwai_no p x y z (fun W => rchk_is p (by unfold chkE; rw [if_neg (by simp [k])]) W) w
  | true =>
    simp only [if_true]
    have ho := ok_out k
    unfold Ok at ho
    have c1 := fun W => rchk_is p (e := 0) (by unfold chkE; rw [if_pos k]) W
    unfold dblI
    obtain ⟨t, ht⟩ : ∃ t, min x 1125899906842624 = t := ⟨_, rfl⟩
    rw [ht]
    by_cases h : t ≤ 0
    · rw [if_pos h]; exact rwai_a p x y z ht c1 h (by omega) (fun W => rclamp_walk _ _ _ W) w
    · rw [if_neg h]; exact rwai_b p x y z ht c1 (by omega) p.tr.toNat (by omega) (by omega) (fun W => rclamp_walk _ _ _ W) w
end Go.Proofs.Ytliiogafemlagaa
