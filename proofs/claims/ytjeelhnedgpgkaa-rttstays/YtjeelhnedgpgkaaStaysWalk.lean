/- The walk of RttStays. -/
import Derived.Test.YtjeelhnedgpgkaaOpen
import Derived.Test.YtjeelhnedgpgkaaPlain2
import Derived.BigQuiet
namespace Go.Proofs.Ytjeelhnedgpgkaa
open Go.ChangeShapes Go.WideShapes Go.ChangeAt Go.RowKit
set_option linter.unusedVariables false

theorem below_drewN {B : Nat} {w w' : World} (h : Below B w w') (n : Nat) : Below B w (w'.drewN n) := ⟨h.os, h.tape, h.output, h.size, h.block⟩

set_option maxRecDepth 100000 in
set_option maxHeartbeats 4000000 in
theorem stays_a (lo hi : Int) (A : Option Addr) (n cp : Nat) (w : World)  (k1 : ∀ W, Calls Try.prog 15 #[.int .i64 lo, .int .i64 hi] W fun e w' => e = .returned (.tuple #[.agg #[.int .i64 0, .int .i64 0, .int .i64 0, .int .i64 0, .int .i64 0], .int .i64 2]) ∧ Below W.heap.size W w') : Calls Try.prog 6 #[.int .i64 lo, .int .i64 hi, .slice A n cp] w fun e w' => e = .returned (.bool true) ∧ Below w.heap.size w w' := by
  have kh := heads_any
  go_enter Try.func6, Try.ntmps6
  go_wp2_with fail
  refine (k1 _).mono ?_
  rintro e w1 ⟨rfl, hB1⟩
  have HX1 : Hid (Below w.heap.size w (w1.alloc (.cells #[.int .i64 0, .int .i64 0, .int .i64 0, .int .i64 0, .int .i64 0] 23))) := below_more hB1 _
  clear hB1 k1
  go_wp2_with fail
  refine (kh _).mono ?_
  rintro e wz ⟨rfl, hBz⟩
  go_wp2_with fail
  go_ret
  exact ⟨rfl, Below.on HX1.out hBz⟩

set_option maxRecDepth 100000 in
set_option maxHeartbeats 4000000 in
theorem stays_b (lo hi : Int) (A : Option Addr) (n cp : Nat) (c : Int) (w : World) (hn : (1000 : Int) < (n : Int)) (k1 : ∀ W, Calls Try.prog 15 #[.int .i64 lo, .int .i64 hi] W fun e w' => e = .returned (.tuple #[.agg #[.int .i64 0, .int .i64 0, .int .i64 c, .int .i64 lo, .int .i64 hi], .int .i64 0]) ∧ Below W.heap.size W w') : Calls Try.prog 6 #[.int .i64 lo, .int .i64 hi, .slice A n cp] w fun e w' => e = .returned (.bool true) ∧ Below w.heap.size w w' := by
  have kh := heads_any
  go_enter Try.func6, Try.ntmps6
  go_wp2_with fail
  refine (k1 _).mono ?_
  rintro e w1 ⟨rfl, hB1⟩
  have HX1 : Hid (Below w.heap.size w (w1.alloc (.cells #[.int .i64 0, .int .i64 0, .int .i64 c, .int .i64 lo, .int .i64 hi] 23))) := below_more hB1 _
  clear hB1 k1
  go_wp2_with fail
  refine (kh _).mono ?_
  rintro e wz ⟨rfl, hBz⟩
  go_wp2_with fail
  go_ret
  exact ⟨rfl, Below.on HX1.out hBz⟩

/-- The mean is within the samples, if there was one. -/
def Mid (s le mo : Int) : Prop := s = 0 ∨ (1 ≤ s ∧ le ≤ s ∧ s ≤ mo)
theorem mid_step {s le mo t : Int} (h : Mid s le mo) : min le t ≤ meanI s t ∧ meanI s t ≤ max mo t := by
  unfold Mid at h
  unfold meanI
  split <;> omega
set_option maxRecDepth 100000 in
set_option maxHeartbeats 4000000 in
theorem stays_go (lo hi c : Int) (A : Option Addr) (n cp : Nat) (xs : List Int) (w : World) (hX : IntsAt w A xs) (hx : xs.length = n) (hnb : n ≤ 1000) (k : okB ⟨0, 0, c, lo, hi⟩ = true)
    (k1 : ∀ W, Calls Try.prog 15 #[.int .i64 lo, .int .i64 hi] W fun e w' => e = .returned (.tuple #[.agg #[.int .i64 0, .int .i64 0, .int .i64 c, .int .i64 lo, .int .i64 hi], .int .i64 0]) ∧ Below W.heap.size W w') :
    Calls Try.prog 6 #[.int .i64 lo, .int .i64 hi, .slice A n cp] w fun e w' => e = .returned (.bool true) ∧ Below w.heap.size w w' := by
  have kh := heads_any
  have hh0 := ok_out k
  have hlh : 1 ≤ lo ∧ lo ≤ hi ∧ hi ≤ 1125899906842624 := by omega
  have hnb' : ¬ (1000 : Int) < (n : Int) := by omega
  have HP : Hid (IntsAt w A xs ∧ xs.length = n ∧ okB ⟨0, 0, c, lo, hi⟩ = true) := ⟨hX, hx, k⟩
  clear hX hx k hh0
  go_enter Try.func6, Try.ntmps6
  go_wp2_with fail
  refine (k1 _).mono ?_
  rintro e w1 ⟨rfl, hB1⟩
  have HX1 : Hid (Below w.heap.size w (w1.alloc (.cells #[.int .i64 0, .int .i64 0, .int .i64 c, .int .i64 lo, .int .i64 hi] 23)) ∧ BoxT (w1.alloc (.cells #[.int .i64 0, .int .i64 0, .int .i64 c, .int .i64 lo, .int .i64 hi] 23)) w1.heap.size (.int .i64 0) (.int .i64 0) (.int .i64 c) (.int .i64 lo) (.int .i64 hi)) := ⟨below_more hB1 _, BoxT.new _ _ _ _ _ _⟩
  have hsz : w.heap.size ≤ w1.heap.size := hB1.size
  clear hB1 k1
  go_wp2_with fail
  go_loopw [9, 10, 11] (fun v9 v10 v11 wr => ∃ (s v o le mo : Int) (i : Nat), v9 = .int .i64 le ∧ v10 = .int .i64 mo ∧ v11 = .int .i64 (i : Int) ∧ i ≤ n ∧ 1 ≤ le ∧ le ≤ 1125899906842624 ∧ 0 ≤ mo ∧ mo ≤ 1125899906842624 ∧ Hid (okB ⟨s, v, o, lo, hi⟩ = true ∧ Mid s le mo ∧ Below w.heap.size w wr ∧ BoxT wr w1.heap.size (.int .i64 s) (.int .i64 v) (.int .i64 o) (.int .i64 lo) (.int .i64 hi)))
      (fun _ _ vi _ => n - (intOf vi).toNat)
  case atStart => exact ⟨0, 0, c, _, _, 0, rfl, rfl, rfl, by omega, by omega, by omega, by omega, by omega, HP.out.2.2, .inl rfl, HX1.out.1, HX1.out.2⟩
  case round =>
    obtain ⟨s, v, o, le, mo, i, rfl, rfl, rfl, hin, hle1, hle2, hmo1, hmo2, HR⟩ := hrel
    clear HX1
    by_cases hi' : i < n
    · have hlt : (i : Int) < (n : Int) := by omega
      obtain ⟨b, p, rfl, hcell, hxb⟩ := HP.out.1.later HR.out.2.2.1 i (by rw [HP.out.2.1]; exact hi')
      obtain ⟨x, hxx⟩ : ∃ x, xs[i]?.getD 0 = x := ⟨_, rfl⟩
      rw [hxx] at hcell hxb
      unfold I64 at hxb
      clear hxx
      obtain ⟨i0, i1, i2, i3, i4⟩ := HR.out.2.2.2.cells
      have hgr := HR.out.2.2.2.lt
      have hbl : b < wr.heap.size := lt_of_cell hcell
      go_upto_region 9 with fail
      obtain ⟨V, hV⟩ : ∃ V, wr.alloc (.cells #[.int .i64 s, .int .i64 v, .int .i64 o, .int .i64 lo, .int .i64 hi] 23) = V := ⟨_, rfl⟩
      have HV : Hid (Below w.heap.size w V ∧ BoxT V w1.heap.size (.int .i64 s) (.int .i64 v) (.int .i64 o) (.int .i64 lo) (.int .i64 hi) ∧ BoxT V wr.heap.size (.int .i64 s) (.int .i64 v) (.int .i64 o) (.int .i64 lo) (.int .i64 hi) ∧ V.cell? ⟨b, p + i, none⟩ = some (.int .i64 x) ∧ wr.heap.size < V.heap.size ∧ Below wr.heap.size wr V) := by
        rw [← hV]
        exact ⟨below_more HR.out.2.2.1 _, HR.out.2.2.2.alloc _, BoxT.new _ _ _ _ _ _, (Below.cell (p := ⟨b, p + i, none⟩) ((Below.refl _ wr).alloc (Nat.le_refl _) _) hbl).trans hcell, by simp, below_more (Below.refl _ _) _⟩
      try rw [hV]
      clear hV i0 i1 i2 i3 i4
      clear hcell
      have hcell := HV.out.2.2.2.1
      have HM : Hid (okB ⟨s, v, o, lo, hi⟩ = true ∧ Mid s le mo) := ⟨HR.out.1, HR.out.2.1⟩
      clear HR
      obtain ⟨j0, j1, j2, j3, j4⟩ := HV.out.2.1.cells
      by_cases hz : x = 0
      · subst hz
        obtain ⟨e1, e2, e3⟩ := bck_ok HM.out.1
        obtain ⟨y, hy⟩ : ∃ y, min (2 * o) hi = y := ⟨_, rfl⟩
        rw [hy] at e2 e3
        have k2 : ∀ W, Calls Try.prog 10 #[.agg #[.int .i64 s, .int .i64 v, .int .i64 o, .int .i64 lo, .int .i64 hi]] W fun e w' => e = .returned (.tuple #[.agg #[.int .i64 s, .int .i64 v, .int .i64 y, .int .i64 lo, .int .i64 hi], .int .i64 0]) ∧ Below W.heap.size W w' := fun W => back_is s v o lo hi W _ e2 0 e1
        have k3 : ∀ W, Calls Try.prog 17 #[.agg #[.int .i64 s, .int .i64 v, .int .i64 y, .int .i64 lo, .int .i64 hi]] W fun e w' => e = .returned (.int .i64 0) ∧ Below W.heap.size W w' := fun W => chk_yes s v y lo hi W e3
        have ho := ok_out HM.out.1
        have hy2 := ok_out e3
        have hy1 : o ≤ y ∧ lo ≤ y ∧ y ≤ hi := by omega
        have HY : Hid (okB ⟨s, v, y, lo, hi⟩ = true ∧ Mid s le mo) := ⟨e3, HM.out.2⟩
        clear e1 e2 e3 hy ho hy2 HM
        go_wp2_with fail
        refine (k2 _).mono ?_
        rintro e w2 ⟨rfl, hB2⟩
        have HW : Hid (Below w.heap.size w w2 ∧ BoxT w2 w1.heap.size (.int .i64 s) (.int .i64 v) (.int .i64 o) (.int .i64 lo) (.int .i64 hi) ∧ BoxT w2 wr.heap.size (.int .i64 s) (.int .i64 v) (.int .i64 o) (.int .i64 lo) (.int .i64 hi)) := ⟨Below.on HV.out.1 hB2, HV.out.2.1.later hB2, HV.out.2.2.1.later hB2⟩
        clear HV hB2 k2 j0 j1 j2 j3 j4 hcell
        have f1 := fun i => HW.out.2.2.frozen i
        obtain ⟨j0, j1, j2, j3, j4⟩ := HW.out.2.2.cells
        go_upto_region 11 with fail
        obtain ⟨U, hU⟩ : ∃ U, (((((w2.setCell ⟨wr.heap.size, 0, none⟩ (.int .i64 s)).setCell ⟨wr.heap.size, 1, none⟩ (.int .i64 v)).setCell ⟨wr.heap.size, 2, none⟩ (.int .i64 y)).setCell ⟨wr.heap.size, 3, none⟩ (.int .i64 lo)).setCell ⟨wr.heap.size, 4, none⟩ (.int .i64 hi)) = U := ⟨_, rfl⟩
        have HU : Hid (Below w.heap.size w U ∧ BoxT U w1.heap.size (.int .i64 s) (.int .i64 v) (.int .i64 o) (.int .i64 lo) (.int .i64 hi) ∧ BoxT U wr.heap.size (.int .i64 s) (.int .i64 v) (.int .i64 y) (.int .i64 lo) (.int .i64 hi) ∧ w1.heap.size < wr.heap.size) := by
          rw [← hU]
          exact ⟨below_putT HW.out.1 _ (by omega) _ _ _ _ _, HW.out.2.1.putAside _ (by omega) _ _ _ _ _, HW.out.2.2.put _ _ _ _ _, hgr⟩
        try rw [hU]
        clear hU HW f1 j0 j1 j2 j3 j4
        obtain ⟨j0, j1, j2, j3, j4⟩ := HU.out.2.1.cells
        obtain ⟨i0, i1, i2, i3, i4⟩ := HU.out.2.2.1.cells
        go_wp2_with fail
        refine (k3 _).mono ?_
        rintro e w5 ⟨rfl, hB5⟩
        have HF : Hid (Below w.heap.size w w5 ∧ BoxT w5 w1.heap.size (.int .i64 s) (.int .i64 v) (.int .i64 o) (.int .i64 lo) (.int .i64 hi) ∧ BoxT w5 wr.heap.size (.int .i64 s) (.int .i64 v) (.int .i64 y) (.int .i64 lo) (.int .i64 hi) ∧ w1.heap.size < wr.heap.size) := ⟨Below.on HU.out.1 hB5, HU.out.2.1.later hB5, HU.out.2.2.1.later hB5, HU.out.2.2.2⟩
        have hgt := HF.out.2.2.2
        clear HU hB5 k3 i0 i1 i2 i3 i4
        obtain ⟨i0, i1, i2, i3, i4⟩ := HF.out.2.2.1.cells
        obtain ⟨g0, g1, g2, g3, g4⟩ := HF.out.2.1.cells
        have f1 := fun i => HF.out.2.1.frozen i
        have HN : Hid (Below w.heap.size w (((((w5.setCell ⟨w1.heap.size, 0, none⟩ (.int .i64 s)).setCell ⟨w1.heap.size, 1, none⟩ (.int .i64 v)).setCell ⟨w1.heap.size, 2, none⟩ (.int .i64 y)).setCell ⟨w1.heap.size, 3, none⟩ (.int .i64 lo)).setCell ⟨w1.heap.size, 4, none⟩ (.int .i64 hi)) ∧ BoxT (((((w5.setCell ⟨w1.heap.size, 0, none⟩ (.int .i64 s)).setCell ⟨w1.heap.size, 1, none⟩ (.int .i64 v)).setCell ⟨w1.heap.size, 2, none⟩ (.int .i64 y)).setCell ⟨w1.heap.size, 3, none⟩ (.int .i64 lo)).setCell ⟨w1.heap.size, 4, none⟩ (.int .i64 hi)) w1.heap.size (.int .i64 s) (.int .i64 v) (.int .i64 y) (.int .i64 lo) (.int .i64 hi)) := ⟨below_putT HF.out.1 _ hsz _ _ _ _ _, HF.out.2.1.put _ _ _ _ _⟩
        go_wp2_with fail
        go_roundw
        case rel => exact ⟨s, v, y, le, mo, i + 1, by go_num, by go_num, by go_num, by omega, by omega, by omega, by omega, by omega, HY.out.1, HY.out.2, HN.out.1, HN.out.2⟩
        case measure => simp [intOf]; omega
      · have hz' : (x == 0) = false := by simp [hz]
        by_cases hr : 1 ≤ x ∧ x ≤ 1125899906842624
        · obtain ⟨e1, e2, e3, e4⟩ := smp_ok HM.out.1 hr
          have hmid := mid_step (t := x) HM.out.2
          obtain ⟨s', hs'⟩ : ∃ z, meanI s x = z := ⟨_, rfl⟩
          obtain ⟨v', hv'⟩ : ∃ z, varI s v x = z := ⟨_, rfl⟩
          obtain ⟨o', ho'⟩ : ∃ z, clampI (rawO (meanI s x) (varI s v x)) lo hi = z := ⟨_, rfl⟩
          rw [ho', hs', hv'] at e2 e3
          rw [hs'] at hmid e4
          have k2 : ∀ W, Calls Try.prog 11 #[.agg #[.int .i64 s, .int .i64 v, .int .i64 o, .int .i64 lo, .int .i64 hi], .int .i64 x] W fun e w' => e = .returned (.tuple #[.agg #[.int .i64 s', .int .i64 v', .int .i64 o', .int .i64 lo, .int .i64 hi], .int .i64 0]) ∧ Below W.heap.size W w' := fun W => smp_is s v o lo hi x W _ e2 0 e1
          have k3 : ∀ W, Calls Try.prog 17 #[.agg #[.int .i64 s', .int .i64 v', .int .i64 o', .int .i64 lo, .int .i64 hi]] W fun e w' => e = .returned (.int .i64 0) ∧ Below W.heap.size W w' := fun W => chk_yes s' v' o' lo hi W e3
          have hy2 := ok_out e3
          have hy1 : lo ≤ o' ∧ o' ≤ hi := by omega
          have HY : Hid (okB ⟨s', v', o', lo, hi⟩ = true ∧ min le x ≤ s' ∧ s' ≤ max mo x ∧ 1 ≤ s') := ⟨e3, hmid.1, hmid.2, e4⟩
          clear e1 e2 e3 e4 hs' hv' ho' hy2 hmid HM
          go_upto_region 13 with fail
          have hgv : w1.heap.size < V.heap.size := HV.out.2.1.lt
          have hbv : b < V.heap.size := lt_of_cell hcell
          go_cut [13] (fun v13 wx => v13 = .int .i64 0 ∧ Hid (Below w.heap.size w wx ∧ BoxT wx w1.heap.size (.int .i64 s) (.int .i64 v) (.int .i64 o) (.int .i64 lo) (.int .i64 hi) ∧ BoxT wx wr.heap.size (.int .i64 s') (.int .i64 v') (.int .i64 o') (.int .i64 lo) (.int .i64 hi) ∧ w1.heap.size < wr.heap.size ∧ wx.cell? ⟨b, p + i, none⟩ = some (.int .i64 x)))
          case first =>
            go_region_with (go_at_call 11; refine (k2 _).mono ?_; rintro e x1 ⟨rfl, hB2⟩; have hbx : Below V.heap.size V x1 := Below.on (by repeat (first | with_reducible exact Below.refl _ _ | with_reducible assumption | with_reducible refine Below.drew ?_ | with_reducible refine below_drewN ?_ _ | with_reducible refine below_more ?_ _)) hB2; have f1 := fun i => (HV.out.2.2.1.later hbx).frozen i; obtain ⟨q0, q1, q2, q3, q4⟩ := (HV.out.2.2.1.later hbx).cells)
            all_goals (
              go_wp2_with fail
              go_meet
              refine ⟨rfl, ?_⟩
              have hN : ∀ U, U = (((((x1.setCell ⟨wr.heap.size, 0, none⟩ (.int .i64 s')).setCell ⟨wr.heap.size, 1, none⟩ (.int .i64 v')).setCell ⟨wr.heap.size, 2, none⟩ (.int .i64 o')).setCell ⟨wr.heap.size, 3, none⟩ (.int .i64 lo)).setCell ⟨wr.heap.size, 4, none⟩ (.int .i64 hi)) → (Below w.heap.size w U ∧ BoxT U w1.heap.size (.int .i64 s) (.int .i64 v) (.int .i64 o) (.int .i64 lo) (.int .i64 hi) ∧ BoxT U wr.heap.size (.int .i64 s') (.int .i64 v') (.int .i64 o') (.int .i64 lo) (.int .i64 hi) ∧ w1.heap.size < wr.heap.size ∧ U.cell? ⟨b, p + i, none⟩ = some (.int .i64 x)) := by
                rintro U rfl
                exact ⟨below_putT (Below.on HV.out.1 hbx) _ (by omega) _ _ _ _ _, (HV.out.2.1.later hbx).putAside _ (by omega) _ _ _ _ _, (HV.out.2.2.1.later hbx).put _ _ _ _ _, hgr, ((below_putT (Below.mono (Below.refl _ x1) (Nat.le_of_lt (Nat.lt_of_lt_of_le HV.out.2.2.2.2.1 hbx.size))) wr.heap.size (Nat.le_refl _) _ _ _ _ _).cell (p := ⟨b, p + i, none⟩) hbl).trans ((hbx.cell (p := ⟨b, p + i, none⟩) hbv).trans hcell)⟩
              exact hN _ rfl)
          case rest =>
            obtain ⟨rfl, HU5⟩ := hcut
            clear HV hgv hbv hcell j0 j1 j2 j3 j4 k2
            have hcell := HU5.out.2.2.2.2
            go_upto_region 16 with fail
            obtain ⟨W5, hW5⟩ : ∃ W, wc = W := ⟨_, rfl⟩
            rw [hW5] at HU5 hcell
            rw [hW5]
            clear hW5
            obtain ⟨le', hle'⟩ : ∃ z, (if x < le then x else le) = z := ⟨_, rfl⟩
            obtain ⟨mo', hmo'⟩ : ∃ z, (if mo < x then x else mo) = z := ⟨_, rfl⟩
            go_cut [9, 10] (fun v9 v10 wx => v9 = .int .i64 le' ∧ v10 = .int .i64 mo' ∧ Hid (Below W5.heap.size W5 wx))
            case first =>
              go_quiet (fail)
              go_wp2_with fail
              go_meet
              exact ⟨rfl, rfl, below_drewN (Below.refl _ _) _⟩
            case rest =>
              obtain ⟨rfl, rfl, HBc⟩ := hcut
              have HU : Hid (Below w.heap.size w wc ∧ BoxT wc w1.heap.size (.int .i64 s) (.int .i64 v) (.int .i64 o) (.int .i64 lo) (.int .i64 hi) ∧ BoxT wc wr.heap.size (.int .i64 s') (.int .i64 v') (.int .i64 o') (.int .i64 lo) (.int .i64 hi) ∧ w1.heap.size < wr.heap.size) := ⟨Below.on HU5.out.1 HBc.out, HU5.out.2.1.later HBc.out, HU5.out.2.2.1.later HBc.out, HU5.out.2.2.2.1⟩
              have hm := HY.out
              have hm1 := hm.2
              have hle4 : le' = min le x := by rw [← hle']; split <;> omega
              have hmo4 : mo' = max mo x := by rw [← hmo']; split <;> omega
              have hm2 : le' ≤ s' ∧ s' ≤ mo' ∧ 1 ≤ s' := by omega
              have hle3 : 1 ≤ le' ∧ le' ≤ 1125899906842624 ∧ 0 ≤ mo' ∧ mo' ≤ 1125899906842624 := by omega
              have HY2 : Hid (okB ⟨s', v', o', lo, hi⟩ = true ∧ Mid s' le' mo') := ⟨hm.1, .inr ⟨by omega, by omega, by omega⟩⟩
              clear hle' hmo' hle4 hmo4 hm hm1 HU5 HBc hcell HY
              obtain ⟨i0, i1, i2, i3, i4⟩ := HU.out.2.2.1.cells
              go_wp2_with fail
              refine (k3 _).mono ?_
              rintro e w5 ⟨rfl, hB5⟩
              have HF : Hid (Below w.heap.size w w5 ∧ BoxT w5 w1.heap.size (.int .i64 s) (.int .i64 v) (.int .i64 o) (.int .i64 lo) (.int .i64 hi) ∧ BoxT w5 wr.heap.size (.int .i64 s') (.int .i64 v') (.int .i64 o') (.int .i64 lo) (.int .i64 hi) ∧ w1.heap.size < wr.heap.size) := ⟨Below.on HU.out.1 hB5, HU.out.2.1.later hB5, HU.out.2.2.1.later hB5, HU.out.2.2.2⟩
              have hgt := HF.out.2.2.2
              clear HU hB5 k3 i0 i1 i2 i3 i4
              obtain ⟨i0, i1, i2, i3, i4⟩ := HF.out.2.2.1.cells
              obtain ⟨g0, g1, g2, g3, g4⟩ := HF.out.2.1.cells
              have f1 := fun i => HF.out.2.1.frozen i
              have HN : Hid (Below w.heap.size w (((((w5.setCell ⟨w1.heap.size, 0, none⟩ (.int .i64 s')).setCell ⟨w1.heap.size, 1, none⟩ (.int .i64 v')).setCell ⟨w1.heap.size, 2, none⟩ (.int .i64 o')).setCell ⟨w1.heap.size, 3, none⟩ (.int .i64 lo)).setCell ⟨w1.heap.size, 4, none⟩ (.int .i64 hi)) ∧ BoxT (((((w5.setCell ⟨w1.heap.size, 0, none⟩ (.int .i64 s')).setCell ⟨w1.heap.size, 1, none⟩ (.int .i64 v')).setCell ⟨w1.heap.size, 2, none⟩ (.int .i64 o')).setCell ⟨w1.heap.size, 3, none⟩ (.int .i64 lo)).setCell ⟨w1.heap.size, 4, none⟩ (.int .i64 hi)) w1.heap.size (.int .i64 s') (.int .i64 v') (.int .i64 o') (.int .i64 lo) (.int .i64 hi)) := ⟨below_putT HF.out.1 _ hsz _ _ _ _ _, HF.out.2.1.put _ _ _ _ _⟩
              go_wp2_with fail
              go_roundw
              case rel => exact ⟨s', v', o', le', mo', i + 1, by go_num, by go_num, by go_num, by omega, by omega, by omega, by omega, by omega, HY2.out.1, HY2.out.2, HN.out.1, HN.out.2⟩
              case measure => simp [intOf]; omega
        · obtain ⟨e1, e2⟩ : smpE ⟨s, v, o, lo, hi⟩ x = 2 ∧ smpR ⟨s, v, o, lo, hi⟩ x = zR := ⟨by rw [smpE, if_pos HM.out.1, if_neg hr], by rw [smpR, if_pos HM.out.1, if_neg hr]⟩
          have k2 : ∀ W, Calls Try.prog 11 #[.agg #[.int .i64 s, .int .i64 v, .int .i64 o, .int .i64 lo, .int .i64 hi], .int .i64 x] W fun e w' => e = .returned (.tuple #[.agg #[.int .i64 0, .int .i64 0, .int .i64 0, .int .i64 0, .int .i64 0], .int .i64 2]) ∧ Below W.heap.size W w' := fun W => smp_is s v o lo hi x W _ e2 2 e1
          clear e1 e2 HM
          go_upto_region 13 with fail
          have hgv : w1.heap.size < V.heap.size := HV.out.2.1.lt
          have hbv : b < V.heap.size := lt_of_cell hcell
          go_cut [13] (fun v13 wx => v13 = .int .i64 2 ∧ Hid (Below w.heap.size w wx ∧ BoxT wx w1.heap.size (.int .i64 s) (.int .i64 v) (.int .i64 o) (.int .i64 lo) (.int .i64 hi) ∧ BoxT wx wr.heap.size (.int .i64 0) (.int .i64 0) (.int .i64 0) (.int .i64 0) (.int .i64 0) ∧ w1.heap.size < wr.heap.size ∧ wx.cell? ⟨b, p + i, none⟩ = some (.int .i64 x)))
          case first =>
            go_region_with (go_at_call 11; refine (k2 _).mono ?_; rintro e x1 ⟨rfl, hB2⟩; have hbx : Below V.heap.size V x1 := Below.on (by repeat (first | with_reducible exact Below.refl _ _ | with_reducible assumption | with_reducible refine Below.drew ?_ | with_reducible refine below_drewN ?_ _ | with_reducible refine below_more ?_ _)) hB2; have f1 := fun i => (HV.out.2.2.1.later hbx).frozen i; obtain ⟨q0, q1, q2, q3, q4⟩ := (HV.out.2.2.1.later hbx).cells)
            all_goals (
              go_wp2_with fail
              go_meet
              refine ⟨rfl, ?_⟩
              have hN : ∀ U, U = (((((x1.setCell ⟨wr.heap.size, 0, none⟩ (.int .i64 0)).setCell ⟨wr.heap.size, 1, none⟩ (.int .i64 0)).setCell ⟨wr.heap.size, 2, none⟩ (.int .i64 0)).setCell ⟨wr.heap.size, 3, none⟩ (.int .i64 0)).setCell ⟨wr.heap.size, 4, none⟩ (.int .i64 0)) → (Below w.heap.size w U ∧ BoxT U w1.heap.size (.int .i64 s) (.int .i64 v) (.int .i64 o) (.int .i64 lo) (.int .i64 hi) ∧ BoxT U wr.heap.size (.int .i64 0) (.int .i64 0) (.int .i64 0) (.int .i64 0) (.int .i64 0) ∧ w1.heap.size < wr.heap.size ∧ U.cell? ⟨b, p + i, none⟩ = some (.int .i64 x)) := by
                rintro U rfl
                exact ⟨below_putT (Below.on HV.out.1 hbx) _ (by omega) _ _ _ _ _, (HV.out.2.1.later hbx).putAside _ (by omega) _ _ _ _ _, (HV.out.2.2.1.later hbx).put _ _ _ _ _, hgr, ((below_putT (Below.mono (Below.refl _ x1) (Nat.le_of_lt (Nat.lt_of_lt_of_le HV.out.2.2.2.2.1 hbx.size))) wr.heap.size (Nat.le_refl _) _ _ _ _ _).cell (p := ⟨b, p + i, none⟩) hbl).trans ((hbx.cell (p := ⟨b, p + i, none⟩) hbv).trans hcell)⟩
              exact hN _ rfl)
          case rest =>
            obtain ⟨rfl, HU5⟩ := hcut
            clear HV hgv hbv hcell j0 j1 j2 j3 j4 k2
            have hcell := HU5.out.2.2.2.2
            by_cases hx1 : x < 1
            · go_wp2_with fail
              refine (kh _).mono ?_
              rintro e wz ⟨rfl, hBz⟩
              go_wp2_with fail
              go_ret
              exact ⟨rfl, Below.on HU5.out.1 hBz⟩
            · have hx2 : 1125899906842624 < x := by omega
              go_wp2_with fail
              refine (kh _).mono ?_
              rintro e wz ⟨rfl, hBz⟩
              go_wp2_with fail
              go_ret
              exact ⟨rfl, Below.on HU5.out.1 hBz⟩
    · have HZ : Hid (Below w.heap.size w wr) := HR.out.2.2.1
      clear HR
      go_wp2_with fail
      refine (kh _).mono ?_
      rintro e wz ⟨rfl, hBz⟩
      go_wp2_with fail
      go_ret
      exact ⟨rfl, Below.on HZ.out hBz⟩

theorem stays_walk (lo hi : Int) (A : Option Addr) (n cp : Nat) (xs : List Int) (w : World) (hlo : I64 lo) (hhi : I64 hi) (hX : IntsAt w A xs) (hx : xs.length = n) (hnb : n ≤ 9223372036854775807) : Calls Try.prog 6 #[.int .i64 lo, .int .i64 hi, .slice A n cp] w fun e w' => e = .returned (.bool true) ∧ Below w.heap.size w w' := by
  cases k : newB lo hi with
  | false =>
    have hn : newB lo hi ≠ true := by rw [k]; simp
    exact stays_a lo hi A n cp w (fun W => new_is lo hi W zR (by rw [newR, if_neg hn]) 2 (by rw [newE, if_neg hn]))
  | true =>
    have e1 : newR lo hi = ⟨0, 0, clampI 1000000 lo hi, lo, hi⟩ := by rw [newR, if_pos k]; rfl
    have e2 : newE lo hi = 0 := by rw [newE, if_pos k]
    by_cases h1 : 1000 < n
    · exact stays_b lo hi A n cp _ w (by omega) (fun W => new_is lo hi W _ e1 0 e2)
    · refine stays_go lo hi _ A n cp xs w hX hx (by omega) ?_ (fun W => new_is lo hi W _ e1 0 e2)
      have := new_ok lo hi
      rw [k] at this
      exact this
end Go.Proofs.Ytjeelhnedgpgkaa
