/- The walk of RateSums. -/
import Derived.Test.YtdgiapeniafklaaHeads
import Derived.Test.YtdgiapeniafklaaFits
namespace Go.Proofs.Ytdgiapeniafklaa
open Go.ChangeShapes Go.WideShapes Go.ChangeAt Go.RowKit Go.Shelf
set_option linter.unusedVariables false
set_option linter.unusedSimpArgs false
attribute [local go_sem] Oper.semAt_some


theorem ackU_top {ts : List Rc} {i : Nat} (h : recsB ts = true) (hi : i ≤ ts.length) (ht : ackU ts i = 1125899906842624) : ackI ts = 1125899906842624 := by
  have : ∀ k, i + k ≤ ts.length → ackU ts (i + k) = 1125899906842624 := by
    intro k
    induction k with
    | zero => intro _; exact ht
    | succ k ih =>
      intro hk
      have h1 := ih (by omega)
      have h2 := rec_out (recs_at h (show i + k < ts.length by omega))
      rw [← Nat.add_assoc, ackU_next (by omega), h1]; omega
  have h3 := this (ts.length - i) (by omega)
  rw [show i + (ts.length - i) = ts.length by omega, ackU_all] at h3
  exact h3
theorem wrap_sum {s f t : Int} (hs : 0 ≤ s ∧ s ≤ 1125899906842624) (hf : 0 ≤ f ∧ f ≤ t ∧ t - f ≤ 1073741824) (ht : t ≤ 9223372036854775807) : IntKind.i64.wrap (IntKind.i64.wrap (s + t) - f) = s + (t - f) := by
  rw [IntKind.wrap_i64, IntKind.wrap_i64]; omega

set_option maxRecDepth 100000 in
set_option maxHeartbeats 4000000 in
theorem sums_no (q : Rt) (A : Option Addr) (n cap : Nat) (ts : List Rc) (now low r1 : Int) (hd : ∀ W, Calls Try.prog 9 #[] W fun e w' => e = .returned (.bool true) ∧ Below W.heap.size W w') (h1 : (r1 != 0) = true) (c1 : ∀ W, RecsAt W A ts → Calls Try.prog 8 #[agv (rtL q), .slice A n cap, .int .i64 now, .int .i64 low] W fun e w' => e = .returned (.tuple #[agv (rtL rtZ), agv (smL smZ), .int .i64 r1]) ∧ Below W.heap.size W w') (w : World) (hT : RecsAt w A ts) : Calls Try.prog 7 #[agv (rtL q), .slice A n cap, .int .i64 now, .int .i64 low] w fun e w' => e = .returned (.bool true) ∧ Below w.heap.size w w' := by
  have HT : Hid (RecsAt w A ts) := hT
  clear hT
  go_enter Try.func7, Try.ntmps7
  go_wp2_with (first | (refine wpS_box rfl rfl rfl ?_))
  intro X1 p HN
  have HX1 : Hid (Below w.heap.size w X1 ∧ Box X1 p 23 (rtL q) ∧ w.heap.size ≤ p ∧ True) := by
    have hb := Below.refl w.heap.size w
    obtain ⟨hg, hb2, bn⟩ := HN.out
    have hz := hb.size
    exact ⟨Below.on hb hb2, bn, by omega, trivial⟩
  clear HN 
  go_wp2_with (first | (refine wpS_load rfl rfl rfl (HX1.out.2.1) isS23 ?_) | fail)
  refine (c1 _ (HT.out.later (HX1.out.1))).mono ?_
  rintro e w2 ⟨rfl, hB⟩
  have HX2 : Hid (Below w.heap.size w w2 ∧ Box w2 p 23 (rtL q) ∧ w.heap.size ≤ p ∧ True) := by
    obtain ⟨hb, b0, l0, _⟩ := HX1.out
    exact ⟨Below.on hb hB, b0.later hB, l0, trivial⟩
  clear hB HX1
  go_wp2_with (first | (refine wpS_alloc rfl rfl zero23 ?_))
  intro X3 r HN
  have HX3 : Hid (Below w.heap.size w X3 ∧ Box X3 p 23 (rtL q) ∧ Box X3 r 23 (rtL rtZ) ∧ w.heap.size ≤ p ∧ p < r ∧ True) := by
    obtain ⟨hb, b0, l0, _⟩ := HX2.out
    obtain ⟨hg, hb2, bn⟩ := HN.out
    have z0 := b0.lt
    exact ⟨Below.on hb hb2, b0.later hb2, bn, l0, by omega, trivial⟩
  clear HN HX2
  go_wp2_with (first | (refine wpS_alloc rfl rfl zero26 ?_))
  intro X4 s HN
  have HX4 : Hid (Below w.heap.size w X4 ∧ Box X4 p 23 (rtL q) ∧ Box X4 r 23 (rtL rtZ) ∧ Box X4 s 26 (smL smZ) ∧ w.heap.size ≤ p ∧ p < r ∧ r < s ∧ True) := by
    obtain ⟨hb, b0, b1, l0, l1, _⟩ := HX3.out
    obtain ⟨hg, hb2, bn⟩ := HN.out
    have z0 := b0.lt
    have z1 := b1.lt
    exact ⟨Below.on hb hb2, b0.later hb2, b1.later hb2, bn, l0, l1, by omega, trivial⟩
  clear HN HX3
  go_wp2_with (first | (refine wpS_store rfl rfl rfl rfl rfl (HX4.out.2.2.1) rfl isS23 (rtL_one _) ?_))
  intro X5 HN
  have HX5 : Hid (Below w.heap.size w X5 ∧ Box X5 p 23 (rtL q) ∧ Box X5 r 23 (rtL rtZ) ∧ Box X5 s 26 (smL smZ) ∧ w.heap.size ≤ p ∧ p < r ∧ r < s ∧ True) := by
    obtain ⟨hb, b0, b1, b2, l0, l1, l2, _⟩ := HX4.out
    obtain ⟨st, bn⟩ := HN.out
    exact ⟨st.below _ _ (by omega) hb, b0.sto st (by omega), bn, b2.sto st (by omega), l0, l1, l2, trivial⟩
  clear HN HX4
  go_wp2_with (first | (refine wpS_store rfl rfl rfl rfl rfl (HX5.out.2.2.2.1) rfl isS26 (smL_one _) ?_))
  intro X6 HN
  have HX6 : Hid (Below w.heap.size w X6 ∧ Box X6 p 23 (rtL q) ∧ Box X6 r 23 (rtL rtZ) ∧ Box X6 s 26 (smL smZ) ∧ w.heap.size ≤ p ∧ p < r ∧ r < s ∧ True) := by
    obtain ⟨hb, b0, b1, b2, l0, l1, l2, _⟩ := HX5.out
    obtain ⟨st, bn⟩ := HN.out
    exact ⟨st.below _ _ (by omega) hb, b0.sto st (by omega), b1.sto st (by omega), bn, l0, l1, l2, trivial⟩
  clear HN HX5
  go_wp2_with (first | (refine wpS_load rfl rfl rfl (HX6.out.2.2.1) isS23 ?_) | (refine wpS_buildL (ps := []) rfl rfl built23 ?_) | (refine wpS_loadG (by rfl) rfl rfl (HX6.out.2.2.2.1) isS26 ?_) | (refine wpS_buildG (ps := []) (by rfl) rfl built26 ?_) | (refine wpS_eql rfl rfl rfl rfl (eqS23 _) ?_) | (refine wpS_eqlS (by rfl) rfl rfl rfl (eqS26 _) ?_))
  intro X9 HN
  obtain rfl := HN.out.symm
  clear HN
  go_wp2_with fail
  refine (hd _).mono ?_
  rintro e w7 ⟨rfl, hB⟩
  have HX7 : Hid (Below w.heap.size w w7 ∧ Box w7 p 23 (rtL q) ∧ Box w7 r 23 (rtL rtZ) ∧ Box w7 s 26 (smL smZ) ∧ w.heap.size ≤ p ∧ p < r ∧ r < s ∧ True) := by
    obtain ⟨hb, b0, b1, b2, l0, l1, l2, _⟩ := HX6.out
    exact ⟨Below.on hb hB, b0.later hB, b1.later hB, b2.later hB, l0, l1, l2, trivial⟩
  clear hB HX6
  go_wp2_with fail
  go_ret
  exact ⟨rfl, HX7.out.1⟩

set_option maxRecDepth 100000 in
set_option maxHeartbeats 4000000 in
theorem sums_m (q : Rt) (A : Option Addr) (n cap : Nat) (ts : List Rc) (now low G g1 g2 g3 n1 ak rt ra n2 n3 n4 : Int) (b1 : Bool) (hd : ∀ W, Calls Try.prog 9 #[] W fun e w' => e = .returned (.bool true) ∧ Below W.heap.size W w') (hn : 0 < n) (hG : min (q.gv + ak) 1125899906842624 = G) (hb : (0 ≤ q.gv ∧ q.gv ≤ 1125899906842624) ∧ (0 ≤ ak ∧ ak ≤ 1125899906842624) ∧ 0 ≤ ra ∧ 0 ≤ rt ∧ rt ≤ now) (hl : ts.length = n) (hrb : recsB ts = true) (hI : ∀ x ∈ ts, RcI x) (hak : ackI ts = ak) (hml : n ≤ 9223372036854775807) (c1 : ∀ W, RecsAt W A ts → Calls Try.prog 8 #[agv (rtL q), .slice A n cap, .int .i64 now, .int .i64 low] W fun e w' => e = .returned (.tuple #[agv (rtL (⟨G, g1, g2, g3⟩ : Rt)), agv (smL (⟨n1, ak, rt, ra, b1, n2, n3, n4⟩ : Sm)), .int .i64 0]) ∧ Below W.heap.size W w') (c2 : ∀ W, Calls Try.prog 13 #[agv (rtL (⟨G, g1, g2, g3⟩ : Rt))] W fun e w' => e = .returned (.int .i64 0) ∧ Below W.heap.size W w') (w : World) (hT : RecsAt w A ts) : Calls Try.prog 7 #[agv (rtL q), .slice A n cap, .int .i64 now, .int .i64 low] w fun e w' => e = .returned (.bool true) ∧ Below w.heap.size w w' := by
  have HT : Hid (RecsAt w A ts) := hT
  have HI : Hid (∀ x ∈ ts, RcI x) := hI
  have HN : Hid (ts.length = n ∧ recsB ts = true ∧ ackI ts = ak) := ⟨hl, hrb, hak⟩
  clear hT hl hrb hI hak
  go_enter Try.func7, Try.ntmps7
  go_wp2_with (first | (refine wpS_box rfl rfl rfl ?_))
  intro X1 p HN
  have HX1 : Hid (Below w.heap.size w X1 ∧ Box X1 p 23 (rtL q) ∧ w.heap.size ≤ p ∧ True) := by
    have hb := Below.refl w.heap.size w
    obtain ⟨hg, hb2, bn⟩ := HN.out
    have hz := hb.size
    exact ⟨Below.on hb hb2, bn, by omega, trivial⟩
  clear HN 
  go_wp2_with (first | (refine wpS_load rfl rfl rfl (HX1.out.2.1) isS23 ?_) | fail)
  refine (c1 _ (HT.out.later (HX1.out.1))).mono ?_
  rintro e w2 ⟨rfl, hB⟩
  have HX2 : Hid (Below w.heap.size w w2 ∧ Box w2 p 23 (rtL q) ∧ w.heap.size ≤ p ∧ True) := by
    obtain ⟨hb, b0, l0, _⟩ := HX1.out
    exact ⟨Below.on hb hB, b0.later hB, l0, trivial⟩
  clear hB HX1
  go_wp2_with (first | (refine wpS_alloc rfl rfl zero23 ?_))
  intro X3 r HN
  have HX3 : Hid (Below w.heap.size w X3 ∧ Box X3 p 23 (rtL q) ∧ Box X3 r 23 (rtL rtZ) ∧ w.heap.size ≤ p ∧ p < r ∧ True) := by
    obtain ⟨hb, b0, l0, _⟩ := HX2.out
    obtain ⟨hg, hb2, bn⟩ := HN.out
    have z0 := b0.lt
    exact ⟨Below.on hb hb2, b0.later hb2, bn, l0, by omega, trivial⟩
  clear HN HX2
  go_wp2_with (first | (refine wpS_alloc rfl rfl zero26 ?_))
  intro X4 s HN
  have HX4 : Hid (Below w.heap.size w X4 ∧ Box X4 p 23 (rtL q) ∧ Box X4 r 23 (rtL rtZ) ∧ Box X4 s 26 (smL smZ) ∧ w.heap.size ≤ p ∧ p < r ∧ r < s ∧ True) := by
    obtain ⟨hb, b0, b1, l0, l1, _⟩ := HX3.out
    obtain ⟨hg, hb2, bn⟩ := HN.out
    have z0 := b0.lt
    have z1 := b1.lt
    exact ⟨Below.on hb hb2, b0.later hb2, b1.later hb2, bn, l0, l1, by omega, trivial⟩
  clear HN HX3
  go_wp2_with (first | (refine wpS_store rfl rfl rfl rfl rfl (HX4.out.2.2.1) rfl isS23 (rtL_one _) ?_))
  intro X5 HN
  have HX5 : Hid (Below w.heap.size w X5 ∧ Box X5 p 23 (rtL q) ∧ Box X5 r 23 (rtL (⟨G, g1, g2, g3⟩ : Rt)) ∧ Box X5 s 26 (smL smZ) ∧ w.heap.size ≤ p ∧ p < r ∧ r < s ∧ True) := by
    obtain ⟨hb, b0, b1, b2, l0, l1, l2, _⟩ := HX4.out
    obtain ⟨st, bn⟩ := HN.out
    exact ⟨st.below _ _ (by omega) hb, b0.sto st (by omega), bn, b2.sto st (by omega), l0, l1, l2, trivial⟩
  clear HN HX4
  go_wp2_with (first | (refine wpS_store rfl rfl rfl rfl rfl (HX5.out.2.2.2.1) rfl isS26 (smL_one _) ?_))
  intro X6 HN
  have HX6 : Hid (Below w.heap.size w X6 ∧ Box X6 p 23 (rtL q) ∧ Box X6 r 23 (rtL (⟨G, g1, g2, g3⟩ : Rt)) ∧ Box X6 s 26 (smL (⟨n1, ak, rt, ra, b1, n2, n3, n4⟩ : Sm)) ∧ w.heap.size ≤ p ∧ p < r ∧ r < s ∧ True) := by
    obtain ⟨hb, b0, b1, b2, l0, l1, l2, _⟩ := HX5.out
    obtain ⟨st, bn⟩ := HN.out
    exact ⟨st.below _ _ (by omega) hb, b0.sto st (by omega), b1.sto st (by omega), bn, l0, l1, l2, trivial⟩
  clear HN HX5
  go_wp2_with fail
  go_loopw [12, 13] (fun v12 v13 wr => ∃ (sm : Int) (i : Nat), v12 = .int .i64 sm ∧ v13 = .int .i64 i ∧ i ≤ n ∧ 0 ≤ sm ∧ sm ≤ 1125900980584448 ∧ Hid (min sm 1125899906842624 = ackU ts i) ∧ Hid (Below w.heap.size w wr ∧ Box wr p 23 (rtL q) ∧ Box wr r 23 (rtL (⟨G, g1, g2, g3⟩ : Rt)) ∧ Box wr s 26 (smL (⟨n1, ak, rt, ra, b1, n2, n3, n4⟩ : Sm)) ∧ w.heap.size ≤ p ∧ p < r ∧ r < s ∧ True))
    (fun _ v13 _ => n - (intOf v13).toNat)
  case atStart => exact ⟨0, 0, rfl, rfl, Nat.zero_le _, by omega, by omega, by rw [ackU_0]; rfl, HX6.out⟩
  case round =>
    obtain ⟨sm, i, rfl, rfl, hin, hs0, hs1, HA, HR⟩ := hrel
    clear HX6
    by_cases hlt : i < n
    · by_cases hsm : sm < 1125899906842624
      · have hi' : i < ts.length := by have := HN.out.1; omega
        obtain ⟨b, o, rfl, hc0⟩ := HT.out.2 i hi'
        have hro := rec_out (recs_at HN.out.2.1 hi')
        have hti := (HI.out _ (nth_mem hi')).t.2
        have hnx := ackU_next hi'
        obtain ⟨x, hx⟩ : ∃ x, nth ts i = x := ⟨_, rfl⟩
        rw [hx] at hc0 hro hti hnx
        have hcs := (hc0.below HR.out.1 hc0.lt).out
        have x0 := hcs.1
        have x1 := hcs.2.1
        have hw0 := wrap_sum (s := sm) (f := x.f) (t := x.t) (by omega) hro.1 hti
        obtain ⟨y, hw1⟩ : ∃ y, IntKind.i64.wrap (sm + x.t) = y := ⟨_, rfl⟩
        rw [hw1] at hw0
        obtain ⟨s2, hs2⟩ : ∃ s2, sm + (x.t - x.f) = s2 := ⟨_, rfl⟩
        have hw : IntKind.i64.wrap (y - x.f) = s2 := by rw [hw0, hs2]
        have hlt' : (i : Int) < (n : Int) := by omega
        have HA2 : Hid (min s2 1125899906842624 = ackU ts (i + 1)) := by unfold Hid; rw [hnx, ← HA.out]; omega
        have hs3 : 0 ≤ s2 ∧ s2 ≤ 1125900980584448 := by omega
        have d1 : decide (sm < 1125899906842624) = true := decide_eq_true hsm
        clear hcs hx hw0 hs2 hnx hro hti hc0
        go_upto_region 8 with fail
        go_quiet (fail)
        obtain ⟨X61, hX⟩ : ∃ V, wr.drewN nq = V := ⟨_, rfl⟩
        try rw [hX]
        have HX61 : Hid (Below w.heap.size w X61 ∧ Box X61 p 23 (rtL q) ∧ Box X61 r 23 (rtL (⟨G, g1, g2, g3⟩ : Rt)) ∧ Box X61 s 26 (smL (⟨n1, ak, rt, ra, b1, n2, n3, n4⟩ : Sm)) ∧ w.heap.size ≤ p ∧ p < r ∧ r < s ∧ True) := by
          obtain ⟨hb, b0, b1, b2, l0, l1, l2, _⟩ := HR.out
          have hB := below_drewN (Below.refl wr.heap.size wr) nq
          rw [hX] at hB
          exact ⟨Below.on hb hB, b0.later hB, b1.later hB, b2.later hB, l0, l1, l2, trivial⟩
        clear hX HR
        clear x0 x1 hw hw1
        go_wp2_with fail
        go_roundw
        case rel => exact ⟨s2, i + 1, rfl, by go_num, by omega, by omega, by omega, HA2.out, HX61.out⟩
        case measure => simp [intOf]; omega
      · have hfin : min sm 1125899906842624 = ak := by
          have h1 := HA.out
          have h2 : ackU ts i = 1125899906842624 := by omega
          rw [h1, h2, ← ackU_top HN.out.2.1 (by have := HN.out.1; omega) h2]; exact HN.out.2.2
        have d1 : decide (sm < 1125899906842624) = false := decide_eq_false hsm
        have hlt' : (i : Int) < (n : Int) := by omega
        clear HA
        as_aux_lemma =>
          have k1 : wr.cell? ⟨s, 1, none⟩ = some (.int .i64 ak) := Box.cell (HR.out.2.2.2.1) 1 rfl
          have k2 : wr.cell? ⟨s, 2, none⟩ = some (.int .i64 rt) := Box.cell (HR.out.2.2.2.1) 2 rfl
          have k3 : wr.cell? ⟨s, 3, none⟩ = some (.int .i64 ra) := Box.cell (HR.out.2.2.2.1) 3 rfl
          have m0 : wr.cell? ⟨r, 0, none⟩ = some (.int .i64 G) := Box.cell (HR.out.2.2.1) 0 rfl
          have f0 := Box.cell (HR.out.2.1) 0 rfl
          have hm1 := @min2 sm 1125899906842624 ak hfin
          have hm2 := @min2 (q.gv + ak) 1125899906842624 G hG
          clear hfin
          go_wp2_with (first | (refine wpS_loadG (by rfl) rfl rfl (HR.out.2.2.1) isS23 ?_) | fail)
          refine (c2 _).mono ?_
          rintro e w31 ⟨rfl, hB⟩
          have HX31 : Hid (Below w.heap.size w w31 ∧ Box w31 p 23 (rtL q) ∧ Box w31 r 23 (rtL (⟨G, g1, g2, g3⟩ : Rt)) ∧ Box w31 s 26 (smL (⟨n1, ak, rt, ra, b1, n2, n3, n4⟩ : Sm)) ∧ w.heap.size ≤ p ∧ p < r ∧ r < s ∧ True) := by
            obtain ⟨hb, b0, b1, b2, l0, l1, l2, _⟩ := HR.out
            exact ⟨Below.on hb hB, b0.later hB, b1.later hB, b2.later hB, l0, l1, l2, trivial⟩
          clear hB HR
          go_wp2_with fail
          refine (hd _).mono ?_
          rintro e w32 ⟨rfl, hB⟩
          have HX32 : Hid (Below w.heap.size w w32 ∧ Box w32 p 23 (rtL q) ∧ Box w32 r 23 (rtL (⟨G, g1, g2, g3⟩ : Rt)) ∧ Box w32 s 26 (smL (⟨n1, ak, rt, ra, b1, n2, n3, n4⟩ : Sm)) ∧ w.heap.size ≤ p ∧ p < r ∧ r < s ∧ True) := by
            obtain ⟨hb, b0, b1, b2, l0, l1, l2, _⟩ := HX31.out
            exact ⟨Below.on hb hB, b0.later hB, b1.later hB, b2.later hB, l0, l1, l2, trivial⟩
          clear hB HX31
          go_wp2_with fail
          go_ret
          exact ⟨rfl, HX32.out.1⟩
    · obtain rfl : i = n := by omega
      have hfin : min sm 1125899906842624 = ak := by
        have h1 := HA.out
        rw [h1, ← HN.out.2.2, ← ackU_all, HN.out.1]
      clear HA
      as_aux_lemma =>
        have k1 : wr.cell? ⟨s, 1, none⟩ = some (.int .i64 ak) := Box.cell (HR.out.2.2.2.1) 1 rfl
        have k2 : wr.cell? ⟨s, 2, none⟩ = some (.int .i64 rt) := Box.cell (HR.out.2.2.2.1) 2 rfl
        have k3 : wr.cell? ⟨s, 3, none⟩ = some (.int .i64 ra) := Box.cell (HR.out.2.2.2.1) 3 rfl
        have m0 : wr.cell? ⟨r, 0, none⟩ = some (.int .i64 G) := Box.cell (HR.out.2.2.1) 0 rfl
        have f0 := Box.cell (HR.out.2.1) 0 rfl
        have hm1 := @min2 sm 1125899906842624 ak hfin
        have hm2 := @min2 (q.gv + ak) 1125899906842624 G hG
        clear hfin
        go_wp2_with (first | (refine wpS_loadG (by rfl) rfl rfl (HR.out.2.2.1) isS23 ?_) | fail)
        refine (c2 _).mono ?_
        rintro e w31 ⟨rfl, hB⟩
        have HX31 : Hid (Below w.heap.size w w31 ∧ Box w31 p 23 (rtL q) ∧ Box w31 r 23 (rtL (⟨G, g1, g2, g3⟩ : Rt)) ∧ Box w31 s 26 (smL (⟨n1, ak, rt, ra, b1, n2, n3, n4⟩ : Sm)) ∧ w.heap.size ≤ p ∧ p < r ∧ r < s ∧ True) := by
          obtain ⟨hb, b0, b1, b2, l0, l1, l2, _⟩ := HR.out
          exact ⟨Below.on hb hB, b0.later hB, b1.later hB, b2.later hB, l0, l1, l2, trivial⟩
        clear hB HR
        go_wp2_with fail
        refine (hd _).mono ?_
        rintro e w32 ⟨rfl, hB⟩
        have HX32 : Hid (Below w.heap.size w w32 ∧ Box w32 p 23 (rtL q) ∧ Box w32 r 23 (rtL (⟨G, g1, g2, g3⟩ : Rt)) ∧ Box w32 s 26 (smL (⟨n1, ak, rt, ra, b1, n2, n3, n4⟩ : Sm)) ∧ w.heap.size ≤ p ∧ p < r ∧ r < s ∧ True) := by
          obtain ⟨hb, b0, b1, b2, l0, l1, l2, _⟩ := HX31.out
          exact ⟨Below.on hb hB, b0.later hB, b1.later hB, b2.later hB, l0, l1, l2, trivial⟩
        clear hB HX31
        go_wp2_with fail
        go_ret
        exact ⟨rfl, HX32.out.1⟩

set_option maxRecDepth 100000 in
set_option maxHeartbeats 4000000 in
theorem sums_z (q : Rt) (A : Option Addr) (n cap : Nat) (ts : List Rc) (now low G g1 g2 g3 n1 ak rt n2 n3 n4 : Int) (b1 : Bool) (hd : ∀ W, Calls Try.prog 9 #[] W fun e w' => e = .returned (.bool true) ∧ Below W.heap.size W w') (hn : ¬ 0 < n) (hG : min (q.gv + ak) 1125899906842624 = G) (hb : (0 ≤ q.gv ∧ q.gv ≤ 1125899906842624) ∧ (0 ≤ ak ∧ ak ≤ 1125899906842624) ∧ 0 ≤ rt ∧ rt ≤ now) (hl : ts.length = n) (hrb : recsB ts = true) (hI : ∀ x ∈ ts, RcI x) (hak : ackI ts = ak) (hml : n ≤ 9223372036854775807) (c1 : ∀ W, RecsAt W A ts → Calls Try.prog 8 #[agv (rtL q), .slice A n cap, .int .i64 now, .int .i64 low] W fun e w' => e = .returned (.tuple #[agv (rtL (⟨G, g1, g2, g3⟩ : Rt)), agv (smL (⟨n1, ak, rt, 0, b1, n2, n3, n4⟩ : Sm)), .int .i64 0]) ∧ Below W.heap.size W w') (c2 : ∀ W, Calls Try.prog 13 #[agv (rtL (⟨G, g1, g2, g3⟩ : Rt))] W fun e w' => e = .returned (.int .i64 0) ∧ Below W.heap.size W w') (w : World) (hT : RecsAt w A ts) : Calls Try.prog 7 #[agv (rtL q), .slice A n cap, .int .i64 now, .int .i64 low] w fun e w' => e = .returned (.bool true) ∧ Below w.heap.size w w' := by
  have HT : Hid (RecsAt w A ts) := hT
  have HI : Hid (∀ x ∈ ts, RcI x) := hI
  have HN : Hid (ts.length = n ∧ recsB ts = true ∧ ackI ts = ak) := ⟨hl, hrb, hak⟩
  clear hT hl hrb hI hak
  go_enter Try.func7, Try.ntmps7
  go_wp2_with (first | (refine wpS_box rfl rfl rfl ?_))
  intro X1 p HN
  have HX1 : Hid (Below w.heap.size w X1 ∧ Box X1 p 23 (rtL q) ∧ w.heap.size ≤ p ∧ True) := by
    have hb := Below.refl w.heap.size w
    obtain ⟨hg, hb2, bn⟩ := HN.out
    have hz := hb.size
    exact ⟨Below.on hb hb2, bn, by omega, trivial⟩
  clear HN 
  go_wp2_with (first | (refine wpS_load rfl rfl rfl (HX1.out.2.1) isS23 ?_) | fail)
  refine (c1 _ (HT.out.later (HX1.out.1))).mono ?_
  rintro e w2 ⟨rfl, hB⟩
  have HX2 : Hid (Below w.heap.size w w2 ∧ Box w2 p 23 (rtL q) ∧ w.heap.size ≤ p ∧ True) := by
    obtain ⟨hb, b0, l0, _⟩ := HX1.out
    exact ⟨Below.on hb hB, b0.later hB, l0, trivial⟩
  clear hB HX1
  go_wp2_with (first | (refine wpS_alloc rfl rfl zero23 ?_))
  intro X3 r HN
  have HX3 : Hid (Below w.heap.size w X3 ∧ Box X3 p 23 (rtL q) ∧ Box X3 r 23 (rtL rtZ) ∧ w.heap.size ≤ p ∧ p < r ∧ True) := by
    obtain ⟨hb, b0, l0, _⟩ := HX2.out
    obtain ⟨hg, hb2, bn⟩ := HN.out
    have z0 := b0.lt
    exact ⟨Below.on hb hb2, b0.later hb2, bn, l0, by omega, trivial⟩
  clear HN HX2
  go_wp2_with (first | (refine wpS_alloc rfl rfl zero26 ?_))
  intro X4 s HN
  have HX4 : Hid (Below w.heap.size w X4 ∧ Box X4 p 23 (rtL q) ∧ Box X4 r 23 (rtL rtZ) ∧ Box X4 s 26 (smL smZ) ∧ w.heap.size ≤ p ∧ p < r ∧ r < s ∧ True) := by
    obtain ⟨hb, b0, b1, l0, l1, _⟩ := HX3.out
    obtain ⟨hg, hb2, bn⟩ := HN.out
    have z0 := b0.lt
    have z1 := b1.lt
    exact ⟨Below.on hb hb2, b0.later hb2, b1.later hb2, bn, l0, l1, by omega, trivial⟩
  clear HN HX3
  go_wp2_with (first | (refine wpS_store rfl rfl rfl rfl rfl (HX4.out.2.2.1) rfl isS23 (rtL_one _) ?_))
  intro X5 HN
  have HX5 : Hid (Below w.heap.size w X5 ∧ Box X5 p 23 (rtL q) ∧ Box X5 r 23 (rtL (⟨G, g1, g2, g3⟩ : Rt)) ∧ Box X5 s 26 (smL smZ) ∧ w.heap.size ≤ p ∧ p < r ∧ r < s ∧ True) := by
    obtain ⟨hb, b0, b1, b2, l0, l1, l2, _⟩ := HX4.out
    obtain ⟨st, bn⟩ := HN.out
    exact ⟨st.below _ _ (by omega) hb, b0.sto st (by omega), bn, b2.sto st (by omega), l0, l1, l2, trivial⟩
  clear HN HX4
  go_wp2_with (first | (refine wpS_store rfl rfl rfl rfl rfl (HX5.out.2.2.2.1) rfl isS26 (smL_one _) ?_))
  intro X6 HN
  have HX6 : Hid (Below w.heap.size w X6 ∧ Box X6 p 23 (rtL q) ∧ Box X6 r 23 (rtL (⟨G, g1, g2, g3⟩ : Rt)) ∧ Box X6 s 26 (smL (⟨n1, ak, rt, 0, b1, n2, n3, n4⟩ : Sm)) ∧ w.heap.size ≤ p ∧ p < r ∧ r < s ∧ True) := by
    obtain ⟨hb, b0, b1, b2, l0, l1, l2, _⟩ := HX5.out
    obtain ⟨st, bn⟩ := HN.out
    exact ⟨st.below _ _ (by omega) hb, b0.sto st (by omega), b1.sto st (by omega), bn, l0, l1, l2, trivial⟩
  clear HN HX5
  go_wp2_with fail
  go_loopw [12, 13] (fun v12 v13 wr => ∃ (sm : Int) (i : Nat), v12 = .int .i64 sm ∧ v13 = .int .i64 i ∧ i ≤ n ∧ 0 ≤ sm ∧ sm ≤ 1125900980584448 ∧ Hid (min sm 1125899906842624 = ackU ts i) ∧ Hid (Below w.heap.size w wr ∧ Box wr p 23 (rtL q) ∧ Box wr r 23 (rtL (⟨G, g1, g2, g3⟩ : Rt)) ∧ Box wr s 26 (smL (⟨n1, ak, rt, 0, b1, n2, n3, n4⟩ : Sm)) ∧ w.heap.size ≤ p ∧ p < r ∧ r < s ∧ True))
    (fun _ v13 _ => n - (intOf v13).toNat)
  case atStart => exact ⟨0, 0, rfl, rfl, Nat.zero_le _, by omega, by omega, by rw [ackU_0]; rfl, HX6.out⟩
  case round =>
    obtain ⟨sm, i, rfl, rfl, hin, hs0, hs1, HA, HR⟩ := hrel
    clear HX6
    by_cases hlt : i < n
    · omega
    · obtain rfl : i = n := by omega
      have hfin : min sm 1125899906842624 = ak := by
        have h1 := HA.out
        rw [h1, ← HN.out.2.2, ← ackU_all, HN.out.1]
      clear HA
      have d9 : decide (0 < i) = false := decide_eq_false hn
      have d8 : decide ((0 : Int) < (i : Int)) = false := decide_eq_false (by omega)
      as_aux_lemma =>
        have k1 : wr.cell? ⟨s, 1, none⟩ = some (.int .i64 ak) := Box.cell (HR.out.2.2.2.1) 1 rfl
        have k2 : wr.cell? ⟨s, 2, none⟩ = some (.int .i64 rt) := Box.cell (HR.out.2.2.2.1) 2 rfl
        have k3 : wr.cell? ⟨s, 3, none⟩ = some (.int .i64 0) := Box.cell (HR.out.2.2.2.1) 3 rfl
        have m0 : wr.cell? ⟨r, 0, none⟩ = some (.int .i64 G) := Box.cell (HR.out.2.2.1) 0 rfl
        have f0 := Box.cell (HR.out.2.1) 0 rfl
        have hm1 := @min2 sm 1125899906842624 ak hfin
        have hm2 := @min2 (q.gv + ak) 1125899906842624 G hG
        clear hfin
        go_wp2_with (first | (refine wpS_loadG (by rfl) rfl rfl (HR.out.2.2.1) isS23 ?_) | fail)
        refine (c2 _).mono ?_
        rintro e w31 ⟨rfl, hB⟩
        have HX31 : Hid (Below w.heap.size w w31 ∧ Box w31 p 23 (rtL q) ∧ Box w31 r 23 (rtL (⟨G, g1, g2, g3⟩ : Rt)) ∧ Box w31 s 26 (smL (⟨n1, ak, rt, 0, b1, n2, n3, n4⟩ : Sm)) ∧ w.heap.size ≤ p ∧ p < r ∧ r < s ∧ True) := by
          obtain ⟨hb, b0, b1, b2, l0, l1, l2, _⟩ := HR.out
          exact ⟨Below.on hb hB, b0.later hB, b1.later hB, b2.later hB, l0, l1, l2, trivial⟩
        clear hB HR
        go_wp2_with fail
        refine (hd _).mono ?_
        rintro e w32 ⟨rfl, hB⟩
        have HX32 : Hid (Below w.heap.size w w32 ∧ Box w32 p 23 (rtL q) ∧ Box w32 r 23 (rtL (⟨G, g1, g2, g3⟩ : Rt)) ∧ Box w32 s 26 (smL (⟨n1, ak, rt, 0, b1, n2, n3, n4⟩ : Sm)) ∧ w.heap.size ≤ p ∧ p < r ∧ r < s ∧ True) := by
          obtain ⟨hb, b0, b1, b2, l0, l1, l2, _⟩ := HX31.out
          exact ⟨Below.on hb hB, b0.later hB, b1.later hB, b2.later hB, l0, l1, l2, trivial⟩
        clear hB HX31
        go_wp2_with fail
        go_ret
        exact ⟨rfl, HX32.out.1⟩
end Go.Proofs.Ytdgiapeniafklaa
