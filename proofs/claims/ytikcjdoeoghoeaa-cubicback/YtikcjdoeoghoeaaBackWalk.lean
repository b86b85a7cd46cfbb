/- The walk of CubicBack. -/
import Derived.Test.YtikcjdoeoghoeaaOpen
import Derived.Test.YtikcjdoeoghoeaaKLaw
namespace Go.Proofs.Ytikcjdoeoghoeaa
open Go.ChangeShapes Go.WideShapes Go.ChangeAt Go.RowKit
set_option linter.unusedVariables false


/-- What is kept from round to round. -/
structure BackI (s : Int) (i : Nat) (d : Cc) : Prop where
  ok : kOk d = true
  ms : d.ms = 100
  ss : d.ss = 70 * s
  cw : 70 * s ≤ d.cw
  wm : d.wm = 100 * s
  fst : i = 0 → d.ep = -1 ∧ d.cw = 70 * s
  run : 1 ≤ i → d.ep = 0 ∧ d.ck ≤ 9100 ∧ (d.ck ≤ ((i : Int) - 1) * 100 → 100 * s ≤ d.cw)
theorem BackI.last {s : Int} {i : Nat} {d : Cc} (h : BackI s i d) (hi : i = 401) : 100 * s ≤ d.cw := by
  subst hi
  have := h.run (by omega)
  exact this.2.2 (by omega)
theorem cbrt_9100 {n : Int} (h : n ≤ 750000000000) : cbrtI n ≤ 9100 := by
  have r := cbrt_root n
  rcases r.le with h0 | h1
  · omega
  · apply Int.le_of_not_gt
    intro hlt
    have := cube_mono (a := 9101) (b := cbrtI n) (by omega) (by omega)
    omega
theorem back_epo {s : Int} {i : Nat} {d : Cc} (hs : 10 ≤ s ∧ s ≤ 1000) (hi : i ≤ 400) (h : BackI s i d) : (epoE (bare d) ((i : Int) * 100000)).ep = 0 ∧ (epoE (bare d) ((i : Int) * 100000)).wm = 100 * s ∧ (epoE (bare d) ((i : Int) * 100000)).ck ≤ 9100 := by
  unfold epoE
  by_cases h0 : i = 0
  · obtain ⟨he, hc⟩ := h.fst h0
    subst h0
    rw [if_pos (show (bare d).ep = -1 from he)]
    unfold begE
    have hw := h.wm
    rw [if_pos (show (bare d).cw < (bare d).wm from by show d.cw < d.wm; omega)]
    refine ⟨by show ((0 : Nat) : Int) * 100000 = 0; omega, hw, ?_⟩
    show begK (bare d) ≤ 9100
    unfold begK
    apply cbrt_9100
    have hm := h.ms
    show mulDivI (d.wm - d.cw) 10000000000 (4 * d.ms) ≤ 750000000000
    unfold mulDivI
    rw [hm, if_neg (by omega)]
    split <;> omega
  · obtain ⟨he, hk, _⟩ := h.run (by omega)
    rw [if_neg (show ¬ (bare d).ep = -1 from by show ¬ d.ep = -1; omega)]
    exact ⟨he, h.wm, hk⟩
theorem back_step {s : Int} {i : Nat} {d : Cc} (hs : 10 ≤ s ∧ s ≤ 1000) (hi : i ≤ 400) (h : BackI s i d) : ∃ D, BackI s (i + 1) D ∧ ((0 ≤ D.ck ∧ D.ck ≤ 2097151) ∧ (0 ≤ D.cw ∧ D.cw ≤ 1073741824) ∧ (0 ≤ d.cw ∧ d.cw ≤ 1073741824) ∧ (D.ck ≤ (i : Int) * 100 → 100 * s ≤ D.cw) ∧ D.ck ≤ 9100) ∧ ∀ W, Calls Try.prog 8 #[ccv d, .int .i64 d.cw, .int .i64 ((i : Int) * 100000), .int .i64 0, .bool false] W fun e w' => e = .returned (.tuple #[ccv D, .int .i64 0]) ∧ Below W.heap.size W w' := by
  have k := h.ok
  have kb := kok_bare k
  obtain ⟨_, g2, g3, _⟩ := kok_out k
  unfold CubK at g2
  unfold ComK at g3
  have kn : 0 ≤ d.cw ∧ d.cw ≤ 1073741824 := by omega
  have kt : 0 ≤ (i : Int) * 100000 ∧ (i : Int) * 100000 ≤ 1125899906842624 := by omega
  have a := fun W => kack_yes d d.cw ((i : Int) * 100000) 0 false k (decide_eq_true kn) (decide_eq_true kt) (by decide) W
  have hss := h.ss
  have hcs := h.cw
  have hE : ackK (bare d) d.cw ((i : Int) * 100000) 0 false = stpE (epoE (bare d) ((i : Int) * 100000)) d.cw ((i : Int) * 100) := by
    unfold ackK
    rw [if_neg (by simp), if_neg (show ¬ (bare d).cw < (bare d).ss from by show ¬ d.cw < d.ss; omega)]
    unfold groE
    rw [(back_epo hs hi h).1]
    unfold timI
    rw [show (max ((i : Int) * 100000 - 0) 0 + 0) / 1000 = (i : Int) * 100 by omega]
  rw [hE] at a
  obtain ⟨e1, e2, e3⟩ := back_epo hs hi h
  have ke := epo_ok kb kt
  obtain ⟨q1, q2, q3⟩ := epo_cw (bare d) ((i : Int) * 100000)
  have q1 : (epoE (bare d) ((i : Int) * 100000)).cw = d.cw := q1
  have q2 : (epoE (bare d) ((i : Int) * 100000)).ms = d.ms := q2
  have q3 : (epoE (bare d) ((i : Int) * 100000)).ss = d.ss := q3
  generalize epoE (bare d) ((i : Int) * 100000) = e at a e1 e2 e3 ke q1 q2 q3
  have hst := stp_ok (t := (i : Int) * 100) ke kn
  obtain ⟨_, f2, f3, _⟩ := kok_out hst.1
  unfold CubK at f2
  unfold ComK at f3
  obtain ⟨_, u2, u3, _⟩ := kok_out ke
  unfold CubK at u2
  unfold ComK at u3
  have hm := h.ms
  have hgo : e.ck ≤ (i : Int) * 100 → 100 * s ≤ (stpE e d.cw ((i : Int) * 100)).cw := by
    intro hk
    have hc : 100 * s ≤ curI e.ms e.wm e.ck ((i : Int) * 100) := by
      have h1 := cur_mono (m := e.ms) (wm := e.wm) (k := e.ck) hk u3.1
      rw [cur_at u2.2.2.2.1 u2.1 u3.1] at h1
      omega
    have ha : 100 * s ≤ aimI e ((i : Int) * 100) := by
      unfold aimI clampI
      split <;> (try split) <;> (try split) <;> omega
    have hb := aim_bd e ((i : Int) * 100) (by omega)
    have hr : risI e d.cw ((i : Int) * 100) = aimI e ((i : Int) * 100) - e.cw := by
      unfold risI
      rw [← q1]
      unfold mulDivI
      rw [if_neg (by omega), Int.mul_ediv_cancel _ (by omega), if_neg (by omega)]
    show 100 * s ≤ min (max (e.cw + risI e d.cw ((i : Int) * 100)) (wesI e d.cw)) 1073741824
    rw [hr]
    omega
  have hcw : d.cw ≤ (stpE e d.cw ((i : Int) * 100)).cw := by have := hst.2; omega
  refine ⟨_, ⟨hst.1, q2.trans hm, q3.trans hss, by omega, e2, fun h0 => absurd h0 (by omega), fun _ => ⟨e1, e3, fun hk => ?_⟩⟩, ⟨f2.2.2.2.1, by omega, kn, hgo, e3⟩, a⟩
  have hk : e.ck ≤ (((i + 1 : Nat) : Int) - 1) * 100 := hk
  exact hgo (by omega)

set_option maxRecDepth 100000 in
set_option maxHeartbeats 4000000 in
theorem back_lo (s : Int) (h : s < 10) (w : World) : Calls Try.prog 7 #[.int .i64 s] w fun e w' => e = .returned (.bool true) ∧ Below w.heap.size w w' := by
  have kh : Hid (∀ W, Calls Try.prog 15 #[] W fun e w' => e = .returned (.bool true) ∧ Below W.heap.size W w') := kheads_any
  go_enter Try.func7, Try.ntmps7
  go_wp2_with fail
  refine (kh.out _).mono ?_
  rintro e w1 ⟨rfl, hB⟩
  have HX1 : Hid (Below w.heap.size w w1 ∧ True) := by
    have hb := Below.refl w.heap.size w
    exact ⟨Below.on hb hB, trivial⟩
  clear hB 
  go_wp2_with fail
  go_ret
  exact ⟨rfl, HX1.out.1⟩

set_option maxRecDepth 100000 in
set_option maxHeartbeats 4000000 in
theorem back_hi (s : Int) (h : 10 ≤ s ∧ 1000 < s) (w : World) : Calls Try.prog 7 #[.int .i64 s] w fun e w' => e = .returned (.bool true) ∧ Below w.heap.size w w' := by
  have kh : Hid (∀ W, Calls Try.prog 15 #[] W fun e w' => e = .returned (.bool true) ∧ Below W.heap.size W w') := kheads_any
  go_enter Try.func7, Try.ntmps7
  go_wp2_with fail
  refine (kh.out _).mono ?_
  rintro e w1 ⟨rfl, hB⟩
  have HX1 : Hid (Below w.heap.size w w1 ∧ True) := by
    have hb := Below.refl w.heap.size w
    exact ⟨Below.on hb hB, trivial⟩
  clear hB 
  go_wp2_with fail
  go_ret
  exact ⟨rfl, HX1.out.1⟩

set_option maxRecDepth 100000 in
set_option maxHeartbeats 4000000 in
theorem back_go (s : Int) (hs : 10 ≤ s ∧ s ≤ 1000) (c1 : ∀ W, Calls Try.prog 22 #[.int .i64 100, .int .i64 10] W fun e w' => e = .returned (.tuple #[ccv (kb 100 1000 1073741824 0 0 (-1) 0 0 0), .int .i64 0]) ∧ Below W.heap.size W w')(c2 : ∀ W, Calls Try.prog 16 #[ccv (kb 100 (100 * s) (100 * s) 0 0 (-1) 0 0 0), .int .i64 0] W fun e w' => e = .returned (.tuple #[ccv (kb 100 (100 * s) (70 * s) 0 (100 * s) (-1) 0 0 0), .int .i64 0]) ∧ Below W.heap.size W w')(c3 : ∀ W, Calls Try.prog 20 #[ccv (kb 100 (100 * s) (70 * s) 0 (100 * s) (-1) 0 0 0)] W fun e w' => e = .returned (.tuple #[ccv (kb 100 (70 * s) (70 * s) 0 (100 * s) (-1) 0 0 0), .int .i64 0]) ∧ Below W.heap.size W w') (hst : Hid (BackI s 0 (kb 100 (70 * s) (70 * s) 0 (100 * s) (-1) 0 0 0) ∧ ∀ (i : Nat) (d : Cc), i ≤ 400 → BackI s i d → ∃ D, BackI s (i + 1) D ∧ ((0 ≤ D.ck ∧ D.ck ≤ 2097151) ∧ (0 ≤ D.cw ∧ D.cw ≤ 1073741824) ∧ (0 ≤ d.cw ∧ d.cw ≤ 1073741824) ∧ (D.ck ≤ (i : Int) * 100 → 100 * s ≤ D.cw) ∧ D.ck ≤ 9100) ∧ ∀ W, Calls Try.prog 8 #[ccv d, .int .i64 d.cw, .int .i64 ((i : Int) * 100000), .int .i64 0, .bool false] W fun e w' => e = .returned (.tuple #[ccv D, .int .i64 0]) ∧ Below W.heap.size W w')) (w : World) : Calls Try.prog 7 #[.int .i64 s] w fun e w' => e = .returned (.bool true) ∧ Below w.heap.size w w' := by
  have kh : Hid (∀ W, Calls Try.prog 15 #[] W fun e w' => e = .returned (.bool true) ∧ Below W.heap.size W w') := kheads_any
  go_enter Try.func7, Try.ntmps7
  go_wp2_with fail
  refine (c1 _).mono ?_
  rintro e w1 ⟨rfl, hB⟩
  have HX1 : Hid (Below w.heap.size w w1 ∧ True) := by
    have hb := Below.refl w.heap.size w
    exact ⟨Below.on hb hB, trivial⟩
  clear hB 
  go_wp2_with (first | (refine wpC_alloc rfl rfl zero26 ?_))
  intro X2 g HN
  have HX2 : Hid (Below w.heap.size w X2 ∧ Box X2 g 26 (ccL zC) ∧ w.heap.size ≤ g ∧ True) := by
    obtain ⟨hb, _⟩ := HX1.out
    obtain ⟨hg, hb2, bn⟩ := HN.out
    have hz := hb.size
    exact ⟨Below.on hb hb2, bn, by omega, trivial⟩
  clear HN HX1
  go_wp2_with (first | (refine wpC_store rfl isC26 rfl rfl rfl rfl (HX2.out.2.1) rfl ?_))
  intro X3 HN
  have HX3 : Hid (Below w.heap.size w X3 ∧ Box X3 g 26 (ccL (kb 100 1000 1073741824 0 0 (-1) 0 0 0)) ∧ w.heap.size ≤ g ∧ True) := by
    obtain ⟨hb, b0, l0, _⟩ := HX2.out
    obtain ⟨st, bn⟩ := HN.out
    exact ⟨st.below _ _ (by omega) hb, bn, l0, trivial⟩
  clear HN HX2
  have k2 := Box.cell (HX3.out.2.1) 2 rfl
  have k3 := Box.cell (HX3.out.2.1) 3 rfl
  have fz := fun i => Box.frozen (HX3.out.2.1) i
  go_upto_region 5 with fail
  obtain ⟨X4, hX⟩ : ∃ X, ((X3.setCell ⟨g, 2, none⟩ (.int .i64 (100 * s))).setCell ⟨g, 3, none⟩ (.int .i64 (100 * s))) = X := ⟨_, rfl⟩
  try rw [hX]
  have HX4 : Hid (Below w.heap.size w X4 ∧ Box X4 g 26 (ccL (kb 100 (100 * s) (100 * s) 0 0 (-1) 0 0 0)) ∧ w.heap.size ≤ g ∧ True) := by
    obtain ⟨hb, b0, l0, _⟩ := HX3.out
    subst hX
    exact ⟨(below_set (below_set hb _ _ _ (by omega)) _ _ _ (by omega)), ((b0.set 2 _).set 3 _), l0, trivial⟩
  clear hX HX3
  clear k2 k3 fz c1
  go_wp2_with (first | (refine wpC_load rfl isC26 rfl rfl (HX4.out.2.1) ?_) | fail)
  refine (c2 _).mono ?_
  rintro e w5 ⟨rfl, hB⟩
  have HX5 : Hid (Below w.heap.size w w5 ∧ Box w5 g 26 (ccL (kb 100 (100 * s) (100 * s) 0 0 (-1) 0 0 0)) ∧ w.heap.size ≤ g ∧ True) := by
    obtain ⟨hb, b0, l0, _⟩ := HX4.out
    exact ⟨Below.on hb hB, b0.later hB, l0, trivial⟩
  clear hB HX4
  go_wp2_with (first | (refine wpC_store rfl isC26 rfl rfl rfl rfl (HX5.out.2.1) rfl ?_))
  intro X6 HN
  have HX6 : Hid (Below w.heap.size w X6 ∧ Box X6 g 26 (ccL (kb 100 (100 * s) (70 * s) 0 (100 * s) (-1) 0 0 0)) ∧ w.heap.size ≤ g ∧ True) := by
    obtain ⟨hb, b0, l0, _⟩ := HX5.out
    obtain ⟨st, bn⟩ := HN.out
    exact ⟨st.below _ _ (by omega) hb, bn, l0, trivial⟩
  clear HN HX5
  go_wp2_with (first | (refine wpC_load rfl isC26 rfl rfl (HX6.out.2.1) ?_) | fail)
  refine (c3 _).mono ?_
  rintro e w7 ⟨rfl, hB⟩
  have HX7 : Hid (Below w.heap.size w w7 ∧ Box w7 g 26 (ccL (kb 100 (100 * s) (70 * s) 0 (100 * s) (-1) 0 0 0)) ∧ w.heap.size ≤ g ∧ True) := by
    obtain ⟨hb, b0, l0, _⟩ := HX6.out
    exact ⟨Below.on hb hB, b0.later hB, l0, trivial⟩
  clear hB HX6
  go_wp2_with (first | (refine wpC_store rfl isC26 rfl rfl rfl rfl (HX7.out.2.1) rfl ?_))
  intro X8 HN
  have HX8 : Hid (Below w.heap.size w X8 ∧ Box X8 g 26 (ccL (kb 100 (70 * s) (70 * s) 0 (100 * s) (-1) 0 0 0)) ∧ w.heap.size ≤ g ∧ True) := by
    obtain ⟨hb, b0, l0, _⟩ := HX7.out
    obtain ⟨st, bn⟩ := HN.out
    exact ⟨st.below _ _ (by omega) hb, bn, l0, trivial⟩
  clear HN HX7
  have k2 : X8.cell? ⟨g, 2, none⟩ = some (.int .i64 (70 * s)) := by have := Box.cell (HX8.out.2.1) 2 rfl; exact this
  clear c2 c3
  go_upto_region 9 with fail
  clear k2
  go_wp2_with fail
  go_loopw [7] (fun v7 wr => ∃ (d : Cc) (i : Nat), v7 = .int .i64 (i : Int) ∧ i ≤ 401 ∧ Hid (BackI s i d ∧ Below w.heap.size w wr ∧ Box wr g 26 (ccL d) ∧ w.heap.size ≤ g ∧ True))
      (fun vi _ => 401 - (intOf vi).toNat)
  case atStart => exact ⟨(kb 100 (70 * s) (70 * s) 0 (100 * s) (-1) 0 0 0), 0, rfl, by omega, hst.out.1, HX8.out.1, (HX8.out.2.1), HX8.out.2.2.1, trivial⟩
  case round =>
    obtain ⟨d, i, rfl, hin, HR⟩ := hrel
    clear HX8
    by_cases hi' : i ≤ 400
    · have hle : (i : Int) ≤ 400 := by omega
      obtain ⟨D, hD, hb, k2⟩ := hst.out.2 i d hi' HR.out.1
      have HD : Hid (BackI s (i + 1) D) := hD
      have HV : Hid (Below w.heap.size w wr ∧ Box wr g 26 (ccL d) ∧ w.heap.size ≤ g ∧ True) := HR.out.2
      clear HR hD
      obtain ⟨q, hq⟩ : ∃ q, d.cw = q := ⟨_, rfl⟩
      obtain ⟨qc, hqc⟩ : ∃ q, D.cw = q := ⟨_, rfl⟩
      obtain ⟨qk, hqk⟩ : ∃ q, D.ck = q := ⟨_, rfl⟩
      rw [hq] at k2 hb
      rw [hqc, hqk] at hb
      have HQ : Hid (d.cw = q ∧ D.cw = qc ∧ D.ck = qk) := ⟨hq, hqc, hqk⟩
      clear hq hqc hqk
      obtain ⟨hb1, hb2, hb3, hb4, hb5⟩ := hb
      have HB : Hid (qk ≤ (i : Int) * 100 → 100 * s ≤ qc) := hb4
      clear hb4
      have kc2 : wr.cell? ⟨g, 2, none⟩ = some (.int .i64 q) := by have := Box.cell (HV.out.2.1) 2 rfl; rw [HQ.out.1] at this; exact this
      go_wp2_with (first | (refine wpC_load rfl isC26 rfl rfl (HV.out.2.1) ?_) | fail)
      refine (k2 _).mono ?_
      rintro e w41 ⟨rfl, hB⟩
      have HX41 : Hid (Below w.heap.size w w41 ∧ Box w41 g 26 (ccL d) ∧ w.heap.size ≤ g ∧ True) := by
        obtain ⟨hb, b0, l0, _⟩ := HV.out
        exact ⟨Below.on hb hB, b0.later hB, l0, trivial⟩
      clear hB HV
      clear k2 kc2
      go_wp2_with (first | (refine wpC_alloc rfl rfl zero26 ?_))
      intro X42 h HN
      have HX42 : Hid (Below w.heap.size w X42 ∧ Box X42 g 26 (ccL d) ∧ Box X42 h 26 (ccL zC) ∧ w.heap.size ≤ g ∧ g < h ∧ True) := by
        obtain ⟨hb, b0, l0, _⟩ := HX41.out
        obtain ⟨hg, hb2, bn⟩ := HN.out
        have z0 := b0.lt
        exact ⟨Below.on hb hb2, b0.later hb2, bn, l0, by omega, trivial⟩
      clear HN HX41
      go_wp2_with (first | (refine wpC_store rfl isC26 rfl rfl rfl rfl (HX42.out.2.2.1) rfl ?_))
      intro X43 HN
      have HX43 : Hid (Below w.heap.size w X43 ∧ Box X43 g 26 (ccL d) ∧ Box X43 h 26 (ccL D) ∧ w.heap.size ≤ g ∧ g < h ∧ True) := by
        obtain ⟨hb, b0, b1, l0, l1, _⟩ := HX42.out
        obtain ⟨st, bn⟩ := HN.out
        exact ⟨st.below _ _ (by omega) hb, b0.sto st (by omega), bn, l0, l1, trivial⟩
      clear HN HX42
      go_wp2_with (first | (refine wpC_load rfl isC26 rfl rfl (HX43.out.2.2.1) ?_) | (refine wpC_store rfl isC26 rfl rfl rfl rfl (HX43.out.2.1) rfl ?_))
      intro X44 HN
      have HX44 : Hid (Below w.heap.size w X44 ∧ Box X44 g 26 (ccL D) ∧ Box X44 h 26 (ccL D) ∧ w.heap.size ≤ g ∧ g < h ∧ True) := by
        obtain ⟨hb, b0, b1, l0, l1, _⟩ := HX43.out
        obtain ⟨st, bn⟩ := HN.out
        exact ⟨st.below _ _ (by omega) hb, bn, b1.sto st (by omega), l0, l1, trivial⟩
      clear HN HX43
      have kg7 : X44.cell? ⟨g, 7, none⟩ = some (.int .i64 qk) := by have := Box.cell (HX44.out.2.1) 7 rfl; rw [HQ.out.2.2] at this; exact this
      have kg2 : X44.cell? ⟨g, 2, none⟩ = some (.int .i64 qc) := by have := Box.cell (HX44.out.2.1) 2 rfl; rw [HQ.out.2.1] at this; exact this
      by_cases hbr : qk + 200 < (i : Int) * 100
      · have hge : 100 * s ≤ qc := HB.out (by omega)
        have hge2 : decide (100 * s - 100 ≤ qc) = true := decide_eq_true (by omega)
        clear HB HD HQ hge
        go_wp2_with fail
        refine (kh.out _).mono ?_
        rintro e w61 ⟨rfl, hB⟩
        have HX61 : Hid (Below w.heap.size w w61 ∧ Box w61 g 26 (ccL D) ∧ Box w61 h 26 (ccL D) ∧ w.heap.size ≤ g ∧ g < h ∧ True) := by
          obtain ⟨hb, b0, b1, l0, l1, _⟩ := HX44.out
          exact ⟨Below.on hb hB, b0.later hB, b1.later hB, l0, l1, trivial⟩
        clear hB HX44
        go_wp2_with fail
        go_ret
        exact ⟨rfl, HX61.out.1⟩
      · have hbr2 : (i : Int) * 100 ≤ qk + 200 := by omega
        clear hbr HB
        go_wp2_with fail
        go_roundw
        case rel => exact ⟨D, i + 1, by go_num, by omega, HD.out, HX44.out.1, (HX44.out.2.1), HX44.out.2.2.2.1, trivial⟩
        case measure => simp [intOf]; omega
    · have hbk := HR.out.1
      have h41 : i = 401 := by omega
      have hge : 100 * s ≤ d.cw := hbk.last h41
      have HV : Hid (Below w.heap.size w wr ∧ Box wr g 26 (ccL d) ∧ w.heap.size ≤ g ∧ True) := HR.out.2
      obtain ⟨q, hq⟩ : ∃ q, d.cw = q := ⟨_, rfl⟩
      rw [hq] at hge
      have HQ : Hid (d.cw = q) := hq
      have hge2 : decide (100 * s - 100 ≤ q) = true := decide_eq_true (by omega)
      clear HR hbk hq hge
      subst h41
      have k2 : wr.cell? ⟨g, 2, none⟩ = some (.int .i64 q) := by have := Box.cell (HV.out.2.1) 2 rfl; rw [HQ.out] at this; exact this
      go_wp2_with fail
      refine (kh.out _).mono ?_
      rintro e w81 ⟨rfl, hB⟩
      have HX81 : Hid (Below w.heap.size w w81 ∧ Box w81 g 26 (ccL d) ∧ w.heap.size ≤ g ∧ True) := by
        obtain ⟨hb, b0, l0, _⟩ := HV.out
        exact ⟨Below.on hb hB, b0.later hB, l0, trivial⟩
      clear hB HV
      go_wp2_with fail
      go_ret
      exact ⟨rfl, HX81.out.1⟩

theorem back_walk (s : Int) (w : World) (hs : I64 s) : Calls Try.prog 7 #[.int .i64 s] w fun e w' => e = .returned (.bool true) ∧ Below w.heap.size w w' := by
  by_cases h0 : s < 10
  · exact back_lo s h0 w
  by_cases h1 : 1000 < s
  · exact back_hi s (by omega) w
  have hb : 10 ≤ s ∧ s ≤ 1000 := by omega
  have c1 := fun W => knew_is 100 10 W
  have o1 : kOk (kb 100 (100 * s) (100 * s) 0 0 (-1) 0 0 0) = true := kok_in ⟨rfl, by unfold CubK kb; simp only; omega, by unfold ComK kb; simp only; omega, ⟨rfl, rfl, rfl, rfl, rfl, rfl, rfl, rfl, rfl, rfl, rfl, rfl⟩⟩
  have o2 : kOk (kb 100 (100 * s) (70 * s) 0 (100 * s) (-1) 0 0 0) = true := kok_in ⟨rfl, by unfold CubK kb; simp only; omega, by unfold ComK kb; simp only; omega, ⟨rfl, rfl, rfl, rfl, rfl, rfl, rfl, rfl, rfl, rfl, rfl, rfl⟩⟩
  have o3 : kOk (kb 100 (70 * s) (70 * s) 0 (100 * s) (-1) 0 0 0) = true := kok_in ⟨rfl, by unfold CubK kb; simp only; omega, by unfold ComK kb; simp only; omega, ⟨rfl, rfl, rfl, rfl, rfl, rfl, rfl, rfl, rfl, rfl, rfl, rfl⟩⟩
  have c2 := fun W => klos_yes (kb 100 (100 * s) (100 * s) 0 0 (-1) 0 0 0) 0 o1 (by decide) W
  have e2 : falE (bare (kb 100 (100 * s) (100 * s) 0 0 (-1) 0 0 0)) = kb 100 (100 * s) (70 * s) 0 (100 * s) (-1) 0 0 0 := by
    have w1 : falW (bare (kb 100 (100 * s) (100 * s) 0 0 (-1) 0 0 0)) = 100 * s := by
      show (if 100 * s < 0 then 100 * s * 17 / 20 else 100 * s) = 100 * s
      rw [if_neg (by omega)]
    unfold falE
    rw [w1, show max ((bare (kb 100 (100 * s) (100 * s) 0 0 (-1) 0 0 0)).cw * 7 / 10) (2 * (bare (kb 100 (100 * s) (100 * s) 0 0 (-1) 0 0 0)).ms) = 70 * s from by show max (100 * s * 7 / 10) (2 * 100) = 70 * s; omega]
    rfl
  rw [e2] at c2
  have c3 := fun W => kdon_yes (kb 100 (100 * s) (70 * s) 0 (100 * s) (-1) 0 0 0) o2 (by decide) W
  exact back_go s hb c1 c2 c3 ⟨⟨o3, rfl, rfl, Int.le_refl _, rfl, fun _ => ⟨rfl, rfl⟩, fun h => absurd h (by omega)⟩, fun i d hi h => back_step hb hi h⟩ w
end Go.Proofs.Ytikcjdoeoghoeaa
