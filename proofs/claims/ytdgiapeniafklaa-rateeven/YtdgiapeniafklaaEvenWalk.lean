/- The walk of RateEven. -/
import Derived.Test.YtdgiapeniafklaaEvenO
import Derived.Test.YtdgiapeniafklaaEvenR
import Derived.Test.YtdgiapeniafklaaEvenP
import Derived.Test.YtdgiapeniafklaaRefSent
namespace Go.Proofs.Ytdgiapeniafklaa
open Go.ChangeShapes Go.WideShapes Go.ChangeAt Go.RowKit Go.Shelf
set_option linter.unusedVariables false
set_option linter.unusedSimpArgs false
attribute [local go_sem] Oper.semAt_some


theorem built33e (a b c : Int) : Try.prog.built 33 [(0, .int .i64 a), (1, .int .i64 b), (3, .int .i64 c), (4, .int .i64 1)] = some (rcL ⟨a, b, false, c, 1, false, false, false, 0, 0, 0, false⟩).toArray := by kernel_rfl
set_option maxRecDepth 100000 in
set_option maxHeartbeats 4000000 in
theorem even_main (z g : Int) (D m : Nat) (hz : 1 ≤ z ∧ z ≤ 10000) (hg : 1 ≤ g ∧ g ≤ 100000) (hD : 1 ≤ D ∧ D ≤ 50) (hm : 1 ≤ m ∧ m ≤ 60) (hd : ∀ W, Calls Try.prog 9 #[] W fun e w' => e = .returned (.bool true) ∧ Below W.heap.size W w') (w : World) : Calls Try.prog 6 #[.int .i64 z, .int .i64 g, .int .i64 (D : Int), .int .i64 (m : Int)] w fun e w' => e = .returned (.bool true) ∧ Below w.heap.size w w' := by
  have d0 : decide (z < 1) = false := decide_eq_false (by omega)
  have d1 : decide (10000 < z) = false := decide_eq_false (by omega)
  have d2 : decide (g < 1) = false := decide_eq_false (by omega)
  have d3 : decide (100000 < g) = false := decide_eq_false (by omega)
  have d4 : decide ((D : Int) < 1) = false := decide_eq_false (by omega)
  have d5 : decide (50 < (D : Int)) = false := decide_eq_false (by omega)
  have d6 : decide ((m : Int) < 1) = false := decide_eq_false (by omega)
  have d7 : decide (60 < (m : Int)) = false := decide_eq_false (by omega)
  go_enter Try.func6, Try.ntmps6
  go_wp2_with (first | (refine wpS_buildL (ps := []) rfl rfl built23 ?_) | (refine wpS_alloc rfl rfl zero23 ?_))
  intro X1 gp HN
  have HX1 : Hid (Below w.heap.size w X1 ∧ Box X1 gp 23 (rtL rtZ) ∧ w.heap.size ≤ gp ∧ True) := by
    have hb := Below.refl w.heap.size w
    obtain ⟨hg, hb2, bn⟩ := HN.out
    have hz := hb.size
    exact ⟨Below.on hb hb2, bn, by omega, trivial⟩
  clear HN 
  go_wp2_with (first | (refine wpS_buildL (ps := []) rfl rfl built23 ?_) | (refine wpS_store rfl rfl rfl rfl rfl (HX1.out.2.1) rfl isS23 (rtL_one _) ?_))
  intro X2 HN
  have HX2 : Hid (Below w.heap.size w X2 ∧ Box X2 gp 23 (rtL rtZ) ∧ w.heap.size ≤ gp ∧ True) := by
    obtain ⟨hb, b0, l0, _⟩ := HX1.out
    obtain ⟨st, bn⟩ := HN.out
    exact ⟨st.below _ _ (by omega) hb, bn, l0, trivial⟩
  clear HN HX1
  go_wp2_with fail
  clear d0 d1 d2 d3 d4 d5 d6 d7
  have hgp0 : w.heap.size ≤ gp := HX2.out.2.2.1
  go_loopw [10, 11] (fun v10 v11 wr => ∃ (i : Nat) (va : Option Addr) (vc : Nat), v10 = .slice va (evL z g D i).length vc ∧ v11 = .int .i64 i ∧ i ≤ m + D ∧ Hid (RowO wr w.heap.size va vc (evL z g D i)) ∧ Hid (Below w.heap.size w wr ∧ Box wr gp 23 (rtL (evQ z g D i)) ∧ w.heap.size ≤ gp ∧ True))
    (fun _ v11 _ => m + D - (intOf v11).toNat)
  case atStart => exact ⟨0, none, 0, by rw [evL_0]; rfl, rfl, Nat.zero_le _, by rw [evL_0]; exact RowO.nil _ _, HX2.out.1, HX2.out.2.1, hgp0, trivial⟩
  case round =>
    obtain ⟨i, va, vc, rfl, rfl, hin, HF, HR⟩ := hrel
    clear HX2
    by_cases hlt : i < m + D
    · have hN : EvN z g D i := ⟨hz, hg, hD, by omega⟩
      have hlt' : (i : Int) < (m : Int) + (D : Int) := by omega
      have b1 := hN.ig
      have b2 := hN.iz
      have b3 : 0 ≤ ((i : Int) + 1) * z ∧ ((i : Int) + 1) * z ≤ 1110000 := by rw [Int.add_mul, Int.one_mul]; omega
      obtain ⟨nn, hnn⟩ : ∃ nn, ((i : Int) == 0) = nn := ⟨_, rfl⟩
      have hn0 : nn = true → i = 0 := by rintro rfl; simpa using hnn
      by_cases hd : D ≤ i
      · have dd : decide ((D : Int) ≤ (i : Int)) = true := decide_eq_true (by omega)
        have hgvn := ev_given (z := z) (g := g) (D := D) (j := i - D) (by rw [Nat.sub_add_cancel hd]; exact hN)
        rw [Nat.sub_add_cancel hd] at hgvn
        obtain ⟨e1, e2, S1, e3, ha, hr, hrt⟩ := hgvn
        have hs := ev_sent hN (q := evG z g D i) (evQ_next hd).symm hn0
        have hl1 := evL_cons z g hD.1 hd
        have hl2 := evL_next z g hD.1 hd
        have hll := evT_len z g D i
        have hxi := ev_iX hN
        have hxj := ev_i (hN.sub (i - D) (by omega))
        have b4 := hN.Dg
        rw [evQ_next hd] at hs
        obtain ⟨Q1, hQ1⟩ : ∃ q, evG z g D i = q := ⟨_, rfl⟩
        obtain ⟨x2, hx2⟩ : ∃ x, evR z g D i = x := ⟨_, rfl⟩
        obtain ⟨x, hx⟩ : ∃ x, evR z g D (i - D) = x := ⟨_, rfl⟩
        obtain ⟨qv, hqv⟩ : ∃ q, evQ z g D i = q := ⟨_, rfl⟩
        obtain ⟨l, hl⟩ : ∃ l, evT z g D i = l := ⟨_, rfl⟩
        have HNX : Hid (evQ z g D (i + 1) = Q1 ∧ evL z g D (i + 1) = l ++ [x2]) := ⟨(evQ_next hd).trans hQ1, by rw [hl2, hl, hx2]⟩
        rw [hQ1, hx2] at hs
        rw [hqv, hx] at e1 e2 e3
        rw [hQ1] at e1
        rw [hx] at hxj
        rw [hl] at hll
        rw [hl1, hx, hl] at HF
        rw [hl1, hx, hl, List.length_cons]
        rw [hqv] at HR
        obtain ⟨s0, s1, s2, s3, s4, s5, s6, s7⟩ := S1
        simp only at ha hr hrt
        subst ha; subst hr
        have hl50 : l.length ≤ 1000 := by omega
        have hvc : l.length + 1 ≤ vc := HF.out.1
        have hsl := run_first va (l.length + 1) vc (by omega)
        have hsl2 : ∀ W, (Instr.slice 24 (.slice va (l.length + 1) vc) (some (.int .i64 1)) none none).run Try.prog W = .ok (.slice (cut1 va vc) l.length (vc - 1)) W := fun W => by have := run_rest va (l.length + 1) vc (by omega) hvc W; rwa [Nat.add_sub_cancel] at this
        have c1 : ∀ W, RecsAt W va [x] → Calls Try.prog 8 #[agv (rtL qv), .slice va 1 vc, .int .i64 ((i : Int) * g), .int .i64 0] W fun e w' => e = .returned (.tuple #[agv (rtL Q1), agv (smL ⟨s0, s1, (D : Int) * g, s3, s4, s5, s6, s7⟩), .int .i64 0]) ∧ Below W.heap.size W w' := fun W h => giv_is qv va vc [x] ((i : Int) * g) 0 W h (fun y hy => by simp at hy; rw [hy]; exact hxj) e1 e3 e2
        have c5 : ∀ W, Calls Try.prog 11 #[agv (rtL Q1), agv (rcL ⟨(i : Int) * s1, ((i : Int) + 1) * s1, false, (i : Int) * g, 1, false, false, false, 0, 0, 0, false⟩), .int .i64 ((i : Int) * g), .bool nn] W fun e w' => e = .returned (.tuple #[agv (rtL Q1), agv (rcL x2), .int .i64 0]) ∧ Below W.heap.size W w' := fun W => snt_is Q1 (evX s1 g i) ((i : Int) * g) nn hxi hs.1 hs.2.1 hs.2.2 W
        have HRT : Hid (D ≤ i - D → s3 = s1 * 1000000 / g) := hrt
        clear e1 e2 e3 hs hl1 hl2 hll hxi hxj hQ1 hx2 hx hqv hl hrt hN hn0
        go_upto_region 10 with fail
        refine ev10_reg (by rfl) qv Q1 ⟨s0, s1, (D : Int) * g, s3, s4, s5, s6, s7⟩ x l va vc ((i : Int) * g) gp w.heap.size wr.heap.size w.heap.size w rfl rfl rfl hgp0 HR.out.2.1.lt hsl c1 ⟨HR.out.1, Nat.le_refl _, HR.out.2.1, HF.out⟩ ?_
        intro c T X1 hT9 hT10 hT13 hS
        simp only [Act.put, List.setIfInBounds_toArray, List.set_cons_zero, List.set_cons_succ]
        simp only [hT9, hT10, hT13]
        obtain ⟨k9, hk9⟩ : ∃ k, c 9 = k := ⟨_, rfl⟩
        obtain ⟨k10, hk10⟩ : ∃ k, c 10 = k := ⟨_, rfl⟩
        simp only [hk9, hk10] at hS ⊢
        have HS : Hid (Below w.heap.size w X1 ∧ Box X1 gp 23 (rtL qv) ∧ RowO X1 w.heap.size va vc (x :: l) ∧ Box X1 k9 23 (rtL Q1) ∧ Box X1 k10 26 (smL ⟨s0, s1, (D : Int) * g, s3, s4, s5, s6, s7⟩)) := ⟨hS.1, hS.2.2.1, hS.2.2.2.1, by simpa using (hS.2.2.2.2.1 (by trivial)).2, by simpa using (hS.2.2.2.2.2.1 (by trivial)).2⟩
        clear hS hk9 hk10 hT9 hT10 hT13 hsl c1 HF HR
        have r1 : X1.cell? ⟨k10, 1, none⟩ = some (.int .i64 s1) := Box.cell HS.out.2.2.2.2 1 rfl
        have r2 : X1.cell? ⟨k10, 2, none⟩ = some (.int .i64 ((D : Int) * g)) := Box.cell HS.out.2.2.2.2 2 rfl
        go_upto_region 13 with fail
        clear r1 r2
        have r3 : X1.cell? ⟨k10, 3, none⟩ = some (.int .i64 s3) := Box.cell HS.out.2.2.2.2 3 rfl
        go_cut [102] (fun v wx => v = .bool false ∧ Hid (Below w.heap.size w wx ∧ Box wx gp 23 (rtL qv) ∧ RowO wx w.heap.size va vc (x :: l) ∧ Box wx k9 23 (rtL Q1)))
        case first =>
          by_cases hq : 2 * (D : Int) + 1 ≤ (i : Int)
          · have hs3 := HRT.out (by omega)
            have dq : decide (2 * (D : Int) + 1 ≤ (i : Int)) = true := decide_eq_true hq
            have hq1 : s1 * 1000000 / g = s3 := hs3.symm
            have hq2 : (s1 * 1000000).tdiv g = s3 := by rw [Int.tdiv_eq_ediv_of_nonneg (by omega)]; exact hq1
            have hsb : 0 ≤ s3 ∧ s3 ≤ 10000000000 := by
              rw [hs3]
              have h1 := Int.ediv_le_self g (show 0 ≤ s1 * 1000000 by omega)
              have h2 := Int.ediv_nonneg (a := s1 * 1000000) (b := g) (by omega) (by omega)
              omega
            clear hs3
            go_quiet (fail)
            go_wp2_with fail
            go_meet
            exact ⟨rfl, below_drewN HS.out.1 _, HS.out.2.1, HS.out.2.2.1, HS.out.2.2.2.1⟩
          · have dq : decide (2 * (D : Int) + 1 ≤ (i : Int)) = false := decide_eq_false hq
            go_quiet (fail)
            go_wp2_with fail
            go_meet
            exact ⟨rfl, below_drewN HS.out.1 _, HS.out.2.1, HS.out.2.2.1, HS.out.2.2.2.1⟩
        case rest =>
          rename World => X2
          obtain ⟨rfl, HS2⟩ := hcut
          clear r3 HS HRT
          go_wp2_with (first | (refine wpS_load rfl rfl rfl HS2.out.2.2.2 isS23 ?_) | (refine wpS_store rfl rfl rfl rfl rfl HS2.out.2.1 rfl isS23 (rtL_one _) ?_))
          intro X3 HN
          have HG : Hid (Box X3 gp 23 (rtL Q1)) := HN.out.2
          have HF : Hid (RowO X3 w.heap.size (cut1 va vc) (vc - 1) l) := (HS2.out.2.2.1.sto HS2.out.2.1 (by decide) HN.out.1).tail
          have HB : Hid (Below w.heap.size w X3) := HN.out.1.below _ _ hgp0 HS2.out.1
          clear HN HS2
          go_wp2_with (first | (refine wpS_load rfl rfl rfl HG.out isS23 ?_) | (refine wpS_buildL (ps := [(0, .tmp 110), (1, .tmp 114), (3, .tmp 115), (4, .const (.int .i64 1))]) rfl rfl (built33e _ _ _) ?_) | fail)
          refine (c5 _).mono ?_
          rintro e w41 ⟨rfl, hB⟩
          have HX41 : Hid (Below X3.heap.size X3 w41 ∧ True) := by
            have hb := Below.refl X3.heap.size X3
            exact ⟨Below.on hb hB, trivial⟩
          clear hB 
          go_wp2_with (first | (refine wpS_alloc rfl rfl zero23 ?_))
          intro X42 n1 HN
          have HX42 : Hid (Below X3.heap.size X3 X42 ∧ Box X42 n1 23 (rtL rtZ) ∧ X3.heap.size ≤ n1 ∧ True) := by
            obtain ⟨hb, _⟩ := HX41.out
            obtain ⟨hg, hb2, bn⟩ := HN.out
            have hz := hb.size
            exact ⟨Below.on hb hb2, bn, by omega, trivial⟩
          clear HN HX41
          go_wp2_with (first | (refine wpS_alloc rfl rfl zero33 ?_))
          intro X43 x1 HN
          have HX43 : Hid (Below X3.heap.size X3 X43 ∧ Box X43 n1 23 (rtL rtZ) ∧ Box X43 x1 33 (rcL rcZ) ∧ X3.heap.size ≤ n1 ∧ n1 < x1 ∧ True) := by
            obtain ⟨hb, b0, l0, _⟩ := HX42.out
            obtain ⟨hg, hb2, bn⟩ := HN.out
            have z0 := b0.lt
            exact ⟨Below.on hb hb2, b0.later hb2, bn, l0, by omega, trivial⟩
          clear HN HX42
          go_wp2_with (first | (refine wpS_store rfl rfl rfl rfl rfl (HX43.out.2.1) rfl isS23 (rtL_one _) ?_))
          intro X44 HN
          have HX44 : Hid (Below X3.heap.size X3 X44 ∧ Box X44 n1 23 (rtL Q1) ∧ Box X44 x1 33 (rcL rcZ) ∧ X3.heap.size ≤ n1 ∧ n1 < x1 ∧ True) := by
            obtain ⟨hb, b0, b1, l0, l1, _⟩ := HX43.out
            obtain ⟨st, bn⟩ := HN.out
            exact ⟨st.below _ _ (by omega) hb, bn, b1.sto st (by omega), l0, l1, trivial⟩
          clear HN HX43
          go_wp2_with (first | (refine wpS_store rfl rfl rfl rfl rfl (HX44.out.2.2.1) rfl isS33 (rcL_one _) ?_))
          intro X45 HN
          have HX45 : Hid (Below X3.heap.size X3 X45 ∧ Box X45 n1 23 (rtL Q1) ∧ Box X45 x1 33 (rcL x2) ∧ X3.heap.size ≤ n1 ∧ n1 < x1 ∧ True) := by
            obtain ⟨hb, b0, b1, l0, l1, _⟩ := HX44.out
            obtain ⟨st, bn⟩ := HN.out
            exact ⟨st.below _ _ (by omega) hb, b0.sto st (by omega), bn, l0, l1, trivial⟩
          clear HN HX44
          go_wp2_with (first | (refine wpS_load rfl rfl rfl (HX45.out.2.1) isS23 ?_) | (refine wpS_store rfl rfl rfl rfl rfl (HG.out.later (HX45.out.1)) rfl isS23 (rtL_one _) ?_))
          intro Y8 HN
          have HY : Hid (Box Y8 gp 23 (rtL Q1) ∧ Box Y8 x1 33 (rcL x2) ∧ RowO Y8 w.heap.size (cut1 va vc) (vc - 1) l ∧ Below w.heap.size w Y8) := by
            have hBx := (HX45.out.1)
            have hFx := HF.out.later hBx
            obtain ⟨st, bn⟩ := HN.out
            have hgx := HG.out.later hBx
            have hlt := HG.out.lt
            exact ⟨bn, (HX45.out.2.2.1).sto st (by have := HX45.out.2.2.2.1; have := HX45.out.2.2.2.2.1; omega), hFx.sto hgx (by decide) st, st.below _ _ hgp0 (Below.on HB.out hBx)⟩
          clear HN HX45 HG HF HB
          go_wp2_with (first | (refine wpS_load rfl rfl rfl HY.out.2.1 isS33 ?_) | (refine wpS_rec1 (r := x2) rfl rfl rfl ?_))
          intro Y9 g9 HN9
          obtain ⟨va9, vc9, w9, hrun, hR9, hB9, hbx9⟩ := RowO.app (HY.out.2.2.1.later HN9.out.2.1) (Nat.le_trans HY.out.2.2.2.size HN9.out.2.1.size) HN9.out.2.2 hl50
          have HE : Hid (RowO w9 w.heap.size va9 vc9 (l ++ [x2]) ∧ Below w.heap.size w w9 ∧ Box w9 gp 23 (rtL Q1) ∧ w.heap.size ≤ gp ∧ True) := ⟨hR9, (Below.on HY.out.2.2.2 HN9.out.2.1).trans hB9, hbx9 _ _ _ (HY.out.1.later HN9.out.2.1) (by decide), hgp0, trivial⟩
          have HRN : Hid ((Builtin.append_ #[24, 24] 24 #[.slice (cut1 va vc) (l).length (vc - 1), .slice (some ⟨g9, 0, none⟩) 1 1]).run Try.prog Y9 = .ok (.slice va9 ((l).length + 1) vc9) w9) := hrun
          clear HN9 HY hrun hR9 hB9 hbx9
          go_wp2_with (at_builtin; refine Lib.wpList_append_run Y9 rfl (.tmp 127) (.tmp 129) 24 24 rfl (.slice (cut1 va vc) (l).length (vc - 1)) (.slice (some ⟨g9, 0, none⟩) 1 1) rfl rfl (.slice va9 ((l).length + 1) vc9) w9 HRN.out ?_)
          go_wp2_with fail
          go_roundw
          case rel => exact ⟨i + 1, va9, vc9, by rw [HNX.out.2, List.length_append]; rfl, by go_num, by omega, by unfold Hid; rw [HNX.out.2]; exact HE.out.1, by unfold Hid; rw [HNX.out.1]; exact HE.out.2⟩
          case measure => simp [intOf]; omega
      · have dd : decide ((D : Int) ≤ (i : Int)) = false := decide_eq_false (by omega)
        have hs := ev_sent hN (q := evQ z g D i) (by rw [(evQ_low (by omega)).1, (evQ_low (by omega)).2]) hn0
        have hl2 := evL_low z g (show i < D by omega)
        have hll := evL_len z g D i
        have hxi := ev_iX hN
        obtain ⟨q2, hq2⟩ : ∃ q, evQ z g D (i + 1) = q := ⟨_, rfl⟩
        obtain ⟨x2, hx2⟩ : ∃ x, evR z g D i = x := ⟨_, rfl⟩
        obtain ⟨qv, hqv⟩ : ∃ q, evQ z g D i = q := ⟨_, rfl⟩
        obtain ⟨l, hl⟩ : ∃ l, evL z g D i = l := ⟨_, rfl⟩
        rw [hq2, hx2, hqv] at hs
        rw [hl, hx2] at hl2
        rw [hl] at HF hll ⊢
        rw [hqv] at HR
        have HNX : Hid (evQ z g D (i + 1) = q2 ∧ evL z g D (i + 1) = l ++ [x2]) := ⟨hq2, hl2⟩
        have hl50 : l.length ≤ 1000 := by omega
        have c5 : ∀ W, Calls Try.prog 11 #[agv (rtL qv), agv (rcL ⟨(i : Int) * z, ((i : Int) + 1) * z, false, (i : Int) * g, 1, false, false, false, 0, 0, 0, false⟩), .int .i64 ((i : Int) * g), .bool nn] W fun e w' => e = .returned (.tuple #[agv (rtL q2), agv (rcL x2), .int .i64 0]) ∧ Below W.heap.size W w' := fun W => snt_is qv (evX z g i) ((i : Int) * g) nn hxi hs.1 hs.2.1 hs.2.2 W
        have HG : Hid (Box wr gp 23 (rtL qv)) := HR.out.2.1
        have HB : Hid (Below w.heap.size w wr) := HR.out.1
        clear hq2 hx2 hqv hl hs hl2 hxi HR hll hN hn0
        go_wp2_with (first | (refine wpS_load rfl rfl rfl HG.out isS23 ?_) | (refine wpS_buildL (ps := [(0, .tmp 110), (1, .tmp 114), (3, .tmp 115), (4, .const (.int .i64 1))]) rfl rfl (built33e _ _ _) ?_) | fail)
        refine (c5 _).mono ?_
        rintro e w41 ⟨rfl, hB⟩
        have HX41 : Hid (Below wr.heap.size wr w41 ∧ True) := by
          have hb := Below.refl wr.heap.size wr
          exact ⟨Below.on hb hB, trivial⟩
        clear hB 
        go_wp2_with (first | (refine wpS_alloc rfl rfl zero23 ?_))
        intro X42 n1 HN
        have HX42 : Hid (Below wr.heap.size wr X42 ∧ Box X42 n1 23 (rtL rtZ) ∧ wr.heap.size ≤ n1 ∧ True) := by
          obtain ⟨hb, _⟩ := HX41.out
          obtain ⟨hg, hb2, bn⟩ := HN.out
          have hz := hb.size
          exact ⟨Below.on hb hb2, bn, by omega, trivial⟩
        clear HN HX41
        go_wp2_with (first | (refine wpS_alloc rfl rfl zero33 ?_))
        intro X43 x1 HN
        have HX43 : Hid (Below wr.heap.size wr X43 ∧ Box X43 n1 23 (rtL rtZ) ∧ Box X43 x1 33 (rcL rcZ) ∧ wr.heap.size ≤ n1 ∧ n1 < x1 ∧ True) := by
          obtain ⟨hb, b0, l0, _⟩ := HX42.out
          obtain ⟨hg, hb2, bn⟩ := HN.out
          have z0 := b0.lt
          exact ⟨Below.on hb hb2, b0.later hb2, bn, l0, by omega, trivial⟩
        clear HN HX42
        go_wp2_with (first | (refine wpS_store rfl rfl rfl rfl rfl (HX43.out.2.1) rfl isS23 (rtL_one _) ?_))
        intro X44 HN
        have HX44 : Hid (Below wr.heap.size wr X44 ∧ Box X44 n1 23 (rtL q2) ∧ Box X44 x1 33 (rcL rcZ) ∧ wr.heap.size ≤ n1 ∧ n1 < x1 ∧ True) := by
          obtain ⟨hb, b0, b1, l0, l1, _⟩ := HX43.out
          obtain ⟨st, bn⟩ := HN.out
          exact ⟨st.below _ _ (by omega) hb, bn, b1.sto st (by omega), l0, l1, trivial⟩
        clear HN HX43
        go_wp2_with (first | (refine wpS_store rfl rfl rfl rfl rfl (HX44.out.2.2.1) rfl isS33 (rcL_one _) ?_))
        intro X45 HN
        have HX45 : Hid (Below wr.heap.size wr X45 ∧ Box X45 n1 23 (rtL q2) ∧ Box X45 x1 33 (rcL x2) ∧ wr.heap.size ≤ n1 ∧ n1 < x1 ∧ True) := by
          obtain ⟨hb, b0, b1, l0, l1, _⟩ := HX44.out
          obtain ⟨st, bn⟩ := HN.out
          exact ⟨st.below _ _ (by omega) hb, b0.sto st (by omega), bn, l0, l1, trivial⟩
        clear HN HX44
        go_wp2_with (first | (refine wpS_load rfl rfl rfl (HX45.out.2.1) isS23 ?_) | (refine wpS_store rfl rfl rfl rfl rfl (HG.out.later (HX45.out.1)) rfl isS23 (rtL_one _) ?_))
        intro Y8 HN
        have HY : Hid (Box Y8 gp 23 (rtL q2) ∧ Box Y8 x1 33 (rcL x2) ∧ RowO Y8 w.heap.size (va) (vc) l ∧ Below w.heap.size w Y8) := by
          have hBx := (HX45.out.1)
          have hFx := HF.out.later hBx
          obtain ⟨st, bn⟩ := HN.out
          have hgx := HG.out.later hBx
          have hlt := HG.out.lt
          exact ⟨bn, (HX45.out.2.2.1).sto st (by have := HX45.out.2.2.2.1; have := HX45.out.2.2.2.2.1; omega), hFx.sto hgx (by decide) st, st.below _ _ hgp0 (Below.on HB.out hBx)⟩
        clear HN HX45 HG HF HB
        go_wp2_with (first | (refine wpS_load rfl rfl rfl HY.out.2.1 isS33 ?_) | (refine wpS_rec1 (r := x2) rfl rfl rfl ?_))
        intro Y9 g9 HN9
        obtain ⟨va9, vc9, w9, hrun, hR9, hB9, hbx9⟩ := RowO.app (HY.out.2.2.1.later HN9.out.2.1) (Nat.le_trans HY.out.2.2.2.size HN9.out.2.1.size) HN9.out.2.2 hl50
        have HE : Hid (RowO w9 w.heap.size va9 vc9 (l ++ [x2]) ∧ Below w.heap.size w w9 ∧ Box w9 gp 23 (rtL q2) ∧ w.heap.size ≤ gp ∧ True) := ⟨hR9, (Below.on HY.out.2.2.2 HN9.out.2.1).trans hB9, hbx9 _ _ _ (HY.out.1.later HN9.out.2.1) (by decide), hgp0, trivial⟩
        have HRN : Hid ((Builtin.append_ #[24, 24] 24 #[.slice (va) (l).length (vc), .slice (some ⟨g9, 0, none⟩) 1 1]).run Try.prog Y9 = .ok (.slice va9 ((l).length + 1) vc9) w9) := hrun
        clear HN9 HY hrun hR9 hB9 hbx9
        go_wp2_with (at_builtin; refine Lib.wpList_append_run Y9 rfl (.tmp 127) (.tmp 129) 24 24 rfl (.slice (va) (l).length (vc)) (.slice (some ⟨g9, 0, none⟩) 1 1) rfl rfl (.slice va9 ((l).length + 1) vc9) w9 HRN.out ?_)
        go_wp2_with fail
        go_roundw
        case rel => exact ⟨i + 1, va9, vc9, by rw [HNX.out.2, List.length_append]; rfl, by go_num, by omega, by unfold Hid; rw [HNX.out.2]; exact HE.out.1, by unfold Hid; rw [HNX.out.1]; exact HE.out.2⟩
        case measure => simp [intOf]; omega
    · obtain rfl : i = m + D := by omega
      have hlt' : ¬ ((m + D : Nat) : Int) < (m : Int) + (D : Int) := by omega
      go_wp2_with fail
      refine (hd _).mono ?_
      rintro e w6 ⟨rfl, hB6⟩
      go_wp2_with fail
      go_ret
      exact ⟨rfl, Below.on HR.out.1 hB6⟩
end Go.Proofs.Ytdgiapeniafklaa
