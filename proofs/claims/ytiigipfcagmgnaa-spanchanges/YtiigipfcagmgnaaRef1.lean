/- The document's Check, Find, Has and Size. -/
import Derived.Test.YtiigipfcagmgnaaFindsWalk
namespace Go.Proofs.Ytiigipfcagmgnaa
open Go.ChangeShapes Go.WideShapes Go.ChangeAt Go.RowKit Go.Shelf
set_option linter.unusedVariables false

theorem lastT_ge : ∀ {q : List Tm} {e : Int}, chk e q = true → e ≤ lastT e q
  | [], e, _ => Int.le_refl _
  | y :: r, e, h => by rw [chk_cons] at h; have := lastT_ge h.2; rw [lastT_cons]; omega

set_option maxRecDepth 100000 in
set_option maxHeartbeats 4000000 in
theorem refCheck_any (A : Option Addr) (cap : Nat) (ts : List Tm) (w : World) (hT : TimsAt w A ts) :
    Calls Try.prog 19 #[.slice A ts.length cap] w fun e w' => e = .returned (.int .i64 (errI ts)) ∧ ∃ n, w' = w.drewN n := by
  have HT : Hid (TimsAt w A ts) := hT
  have hml : ts.length ≤ 9223372036854775807 := hT.1
  obtain ⟨n, hn⟩ : ∃ n, ts.length = n := ⟨_, rfl⟩
  have HN : Hid (ts.length = n) := hn
  rw [hn] at hml ⊢
  clear hT hn
  go_enter Try.func19, Try.ntmps19
  go_wp2_with fail
  go_loopw [3] (fun vi wr => ∃ (i k : Nat), vi = .int .i64 i ∧ i ≤ n ∧ wr = w.drewN k ∧ Hid (chk (-1) (ts.take i) = true))
    (fun vi _ => n - (intOf vi).toNat)
  case atStart => exact ⟨0, 0, rfl, Nat.zero_le _, rfl, by simp [chk, Hid]⟩
  case round =>
    obtain ⟨i, k, rfl, hin, hwr, HC⟩ := hrel
    have hcw : ∀ a, wr.cell? a = w.cell? a := fun a => by rw [hwr]; exact World.cell?_drewN w k a
    have HW : Hid (wr = w.drewN k) := hwr
    clear hwr
    by_cases hlt : i < n
    · have hi' : i < ts.length := by have := HN.out; omega
      obtain ⟨kb, ko, rfl, hc0, hc1⟩ := HT.out.2 i hi'
      obtain ⟨x, hx⟩ : ∃ x, ts[i]?.getD (0, 0) = x := ⟨_, rfl⟩
      rw [hx, ← hcw] at hc0 hc1
      have htk : ts.take (i + 1) = ts.take i ++ [x] := take_snoc hi' hx
      have hge := lastT_ge HC.out
      have HS : Hid (chk (-1) (ts.take (i + 1)) = okAt (lastT (-1) (ts.take i)) x) := by
        unfold Hid; rw [htk, chk_snoc, HC.out, Bool.true_and]
      have HE : Hid (okAt (lastT (-1) (ts.take i)) x = false → errI ts = 60) := fun h => by
        unfold errI
        rw [if_neg]
        rw [chk_prefix (List.take_prefix (i + 1) ts) (HS.out.trans h)]
        decide
      have HGE : Hid (-1 ≤ lastT (-1) (ts.take i)) := hge
      have hlt' : (i : Int) < (n : Int) := by omega
      clear hx htk hge
      by_cases h1 : x.1 < 0
      · have HF : Hid (errI ts = 60) := HE.out (by have h : ¬ lastT (-1) (ts.take i) < x.1 := by have := HGE.out; omega
                                                   simp [okAt, h])
        have hd1 : decide (x.1 < 0) = true := by simpa using h1
        clear hcw h1
        go_upto_region 4 with fail
        go_quiet (fail)
        go_wp2_with fail
        go_ret
        exact ⟨by rw [HF.out]; rfl, _, by rw [HW.out]; exact World.drewN_drewN _ _ _⟩
      · have hd1 : decide (x.1 < 0) = false := by simpa using h1
        by_cases h2 : x.2 ≤ x.1
        · have HF : Hid (errI ts = 60) := HE.out (by have h : ¬ x.1 < x.2 := by omega
                                                     simp [okAt, h])
          have hd2 : decide (x.2 ≤ x.1) = true := by simpa using h2
          clear hcw h1 h2
          go_upto_region 4 with fail
          go_quiet (fail)
          go_wp2_with fail
          go_ret
          exact ⟨by rw [HF.out]; rfl, _, by rw [HW.out]; exact World.drewN_drewN _ _ _⟩
        · have hd2 : decide (x.2 ≤ x.1) = false := by simpa using h2
          by_cases h3 : 1125899906842624 < x.2
          · have HF : Hid (errI ts = 60) := HE.out (by have h : ¬ x.2 ≤ 1125899906842624 := by omega
                                                       simp [okAt, h])
            have hd3 : decide (1125899906842624 < x.2) = true := by simpa using h3
            clear hcw h1 h2 h3
            go_upto_region 4 with fail
            go_quiet (fail)
            go_wp2_with fail
            go_ret
            exact ⟨by rw [HF.out]; rfl, _, by rw [HW.out]; exact World.drewN_drewN _ _ _⟩
          · have hd3 : decide (1125899906842624 < x.2) = false := by simpa using h3
            cases i with
            | zero =>
              have hz0 : wr.cell? ⟨kb, ko, none⟩ = some (.int .i64 x.1) := hc0
              have hz1 : wr.cell? ⟨kb, ko + 1, none⟩ = some (.int .i64 x.2) := hc1
              have HF : Hid (chk (-1) (ts.take (0 + 1)) = true) := by
                unfold Hid; rw [HS.out, okAt_iff]; simp only [List.take_zero, lastT, List.foldl_nil]; omega
              clear hcw h1 h2 h3
              go_upto_region 4 with fail
              go_quiet (fail)
              go_wp2_with fail
              go_roundw
              case rel => exact ⟨0 + 1, _, by go_num, by omega, by rw [HW.out]; exact World.drewN_drewN _ _ _, HF.out⟩
              case measure => simp [intOf]; omega
            | succ j =>
              obtain ⟨_, _, eA, _, hp0⟩ := HT.out.2 j (by omega)
              cases eA
              have hlk : lastT (-1) (ts.take (j + 1)) = (ts[j]?.getD (0, 0)).2 := take_last (by omega)
              obtain ⟨q, hq⟩ : ∃ q, (ts[j]?.getD (0, 0)).2 = q := ⟨_, rfl⟩
              rw [hq, ← hcw] at hp0
              rw [hq] at hlk
              rw [hlk] at HS HE
              clear hcw hlk hq hi'
              by_cases hle : x.1 ≤ q
              · have HF : Hid (errI ts = 60) := HE.out (by have hn : ¬ q < x.1 := by omega
                                                           simp [okAt, hn])
                have hd : decide (x.1 ≤ q) = true := by simpa using hle
                clear h1 h2 h3
                go_upto_region 4 with fail
                go_quiet (fail)
                go_wp2_with fail
                go_ret
                exact ⟨by rw [HF.out]; rfl, _, by rw [HW.out]; exact World.drewN_drewN _ _ _⟩
              · have HF : Hid (chk (-1) (ts.take (j + 1 + 1)) = true) := by
                  unfold Hid; rw [HS.out, okAt_iff]; omega
                have hd : decide (x.1 ≤ q) = false := by simpa using hle
                clear h1 h2 h3
                go_upto_region 4 with fail
                go_quiet (fail)
                go_wp2_with fail
                go_roundw
                case rel => exact ⟨j + 1 + 1, _, by go_num, by omega, by rw [HW.out]; exact World.drewN_drewN _ _ _, HF.out⟩
                case measure => simp [intOf]; omega
    · obtain rfl : i = n := by omega
      have HF : Hid (errI ts = 0) := by
        have := HC.out
        rw [← HN.out, List.take_length] at this
        unfold Hid errI; rw [if_pos this]
      clear hcw
      go_wp2_with fail
      go_ret
      exact ⟨by rw [HF.out]; rfl, k, HW.out⟩
theorem refCheck_is (A : Option Addr) (cap : Nat) (ts : List Tm) (w : World) (hT : Got w A cap ts) (n : Nat) (hn : ts.length = n) (e0 : Int) (he : errI ts = e0) :
    Calls Try.prog 19 #[.slice A n cap] w fun e W' => e = .returned (.int .i64 e0) ∧ Below w.heap.size w W' := by
  subst hn; subst he
  refine (refCheck_any A cap ts w hT.1).mono ?_
  rintro e w' ⟨he, k, rfl⟩
  exact ⟨he, rfl, rfl, rfl, Nat.le_refl _, fun _ _ => rfl⟩

set_option maxRecDepth 100000 in
set_option maxHeartbeats 4000000 in
theorem refFind_is (A : Option Addr) (cap : Nat) (ts : List Tm) (o : Int) (w : World) (hT : Got w A cap ts) (n : Nat) (hn : ts.length = n) (y : Tm) (hy : (findV ts o).getD (0, 0) = y) (b : Bool) (hb : (findV ts o).isSome = b) :
    Calls Try.prog 20 #[.slice A n cap, .int .i64 o] w fun e W' => e = .returned (.tuple #[tmV y, .bool b]) ∧ Below w.heap.size w W' := by
  have hml : n ≤ 9223372036854775807 := by rw [← hn]; exact hT.1.1
  have HT : Hid (Got w A cap ts) := hT
  have HN : Hid (ts.length = n) := hn
  have HY : Hid ((findV ts o).getD (0, 0) = y ∧ (findV ts o).isSome = b) := ⟨hy, hb⟩
  have hB0 : Below w.heap.size w (w.alloc (.cells #[.int .i64 0, .int .i64 0] 24)) := (Below.refl _ w).alloc (Nat.le_refl _) _
  have bX := BoxT.new w (0, 0)
  clear hT hn hy hb
  go_enter Try.func20, Try.ntmps20
  go_wp2_with fail
  go_loopw [6] (fun vi wr => ∃ (i : Nat), vi = .int .i64 i ∧ i ≤ n ∧ (0 < i → chk (-1) ts = true) ∧ Hid (Below w.heap.size w wr ∧ BoxT wr w.heap.size (0, 0) ∧ ∀ y ∈ ts.take i, inB y o = false))
    (fun vi _ => n - (intOf vi).toNat)
  case atStart => exact ⟨0, rfl, Nat.zero_le _, fun h => by omega, hB0, bX, fun y hy => by simp at hy⟩
  case round =>
    obtain ⟨i, rfl, hin, hchk, HL⟩ := hrel
    have done : (findV ts o = none) → ∀ W, Below w.heap.size w W → BoxT W w.heap.size (0, 0) → ((y = (0, 0) ∧ b = false) ∧ Below w.heap.size w ((W.setCell ⟨w.heap.size, 0, none⟩ (.int .i64 0)).setCell ⟨w.heap.size, 1, none⟩ (.int .i64 0)) ∧ BoxT ((W.setCell ⟨w.heap.size, 0, none⟩ (.int .i64 0)).setCell ⟨w.heap.size, 1, none⟩ (.int .i64 0)) w.heap.size (0, 0)) := fun hf W h1 h2 =>
      ⟨⟨by rw [← HY.out.1, hf]; rfl, by rw [← HY.out.2, hf]; rfl⟩, (h1.setCell (p := ⟨w.heap.size, 0, none⟩) (Nat.le_refl _) _).setCell (p := ⟨w.heap.size, 1, none⟩) (Nat.le_refl _) _, h2.set (0, 0)⟩
    have DONE : Hid (_ → _) := done
    clear done hB0 bX
    by_cases hlt : i < n
    · have hi' : i < ts.length := by have := HN.out; omega
      obtain ⟨kb, ko, e3, hc0, hc1⟩ := (HT.out.later HL.out.1).1.2 i hi'
      obtain ⟨x, hx⟩ : ∃ x, ts[i]?.getD (0, 0) = x := ⟨_, rfl⟩
      rw [hx] at hc0 hc1
      have htk : ts.take (i + 1) = ts.take i ++ [x] := take_snoc hi' hx
      have hlt' : (i : Int) < (n : Int) := by omega
      cases hc : chk (-1) ts with
      | false =>
        have HF : Hid (findV ts o = none) := by unfold Hid findV; rw [if_neg (by rw [hc]; decide)]
        have cC := refCheck_is A cap ts wr (HT.out.later HL.out.1) n HN.out 60 (by unfold errI; rw [if_neg (by rw [hc]; decide)])
        clear hx htk hi' hc0 hc1 hc hchk e3
        go_wp2_with (go_at_call 19; refine cC.mono ?_; rintro e w1 ⟨rfl, hB1⟩; have bX1 := HL.out.2.1.on hB1; have d0 := bX1.cell0; have d1 := bX1.cell1; have f0 := bX1.frozen 0; have f1 := bX1.frozen 1)
        obtain ⟨⟨rfl, rfl⟩, g2, g3⟩ := DONE.out HF.out w1 (below_next HL.out.1 hB1) bX1
        have r0 := g3.cell0
        have r1 := g3.cell1
        refine bodyPost_ret (v := .tuple #[tmV (0, 0), .bool false]) (by simp [results, Try.f20, go_sem, r0, r1]) rfl ?_
        exact ⟨rfl, g2⟩
      | true =>
        have cC := refCheck_is A cap ts wr (HT.out.later HL.out.1) n HN.out 0 (by unfold errI; rw [if_pos hc])
        have HCH : Hid (chk (-1) ts = true) := hc
        have HSN : Hid (inB x o = false → ∀ y ∈ ts.take (i + 1), inB y o = false) := fun h y hy => by
          rw [htk] at hy
          rcases List.mem_append.1 hy with hy | hy
          · exact HL.out.2.2 y hy
          · simp at hy; subst hy; exact h
        have HFS : Hid (inB x o = true → findV ts o = some x) := fun h => by
          unfold findV; rw [if_pos HCH.out]
          exact find_stop (by rw [← htk]; exact List.take_prefix _ _) HL.out.2.2 h
        have HCC : Hid (∀ W, Below wr.heap.size wr W → W.cell? ⟨kb, ko + i * 2, none⟩ = some (.int .i64 x.1) ∧ W.cell? ⟨kb, ko + i * 2 + 1, none⟩ = some (.int .i64 x.2)) := fun W hW => ⟨(hW.cell (p := ⟨kb, ko + i * 2, none⟩) (lt_of_cell hc0)).trans hc0, (hW.cell (p := ⟨kb, ko + i * 2 + 1, none⟩) (lt_of_cell hc1)).trans hc1⟩
        subst e3
        clear hx htk hi' hc0 hc1 hc hchk
        by_cases h1 : x.1 ≤ o
        · by_cases h2 : o < x.2
          · have hfx := HFS.out (inB_iff.2 ⟨h1, h2⟩)
            have hyx : y = x := by rw [← HY.out.1, hfx]; rfl
            have hbx : b = true := by rw [← HY.out.2, hfx]; rfl
            subst hyx; subst hbx
            clear hfx
            go_wp2_with (go_at_call 19; refine cC.mono ?_; rintro e w1 ⟨rfl, hB1⟩; have bX1 := HL.out.2.1.on hB1; have d0 := bX1.cell0; have d1 := bX1.cell1; have f0 := bX1.frozen 0; have f1 := bX1.frozen 1; have q0 := (HCC.out w1 hB1).1; have q1 := (HCC.out w1 hB1).2)
            have g3 := bX1.set y
            have r0 := g3.cell0
            have r1 := g3.cell1
            refine bodyPost_ret (v := .tuple #[tmV y, .bool true]) (by simp [results, Try.f20, go_sem, r0, r1]) rfl ?_
            exact ⟨rfl, ((below_next HL.out.1 hB1).setCell (p := ⟨w.heap.size, 0, none⟩) (Nat.le_refl _) _).setCell (p := ⟨w.heap.size, 1, none⟩) (Nat.le_refl _) _⟩
          · have HI : Hid (inB x o = false) := by unfold Hid; cases h : inB x o with
              | false => rfl
              | true => have := inB_iff.1 h; omega
            go_wp2_with (go_at_call 19; refine cC.mono ?_; rintro e w1 ⟨rfl, hB1⟩; have q0 := (HCC.out w1 hB1).1; have q1 := (HCC.out w1 hB1).2)
            go_roundw
            case rel => exact ⟨i + 1, by go_num, by omega, fun _ => (by first | exact HCH.out | trivial), below_next HL.out.1 hB1, HL.out.2.1.on hB1, HSN.out HI.out⟩
            case measure => simp [intOf]; omega
        · have HI : Hid (inB x o = false) := by unfold Hid; cases h : inB x o with
            | false => rfl
            | true => have := inB_iff.1 h; omega
          go_wp2_with (go_at_call 19; refine cC.mono ?_; rintro e w1 ⟨rfl, hB1⟩; have q0 := (HCC.out w1 hB1).1; have q1 := (HCC.out w1 hB1).2)
          go_roundw
          case rel => exact ⟨i + 1, by go_num, by omega, fun _ => (by first | exact HCH.out | trivial), below_next HL.out.1 hB1, HL.out.2.1.on hB1, HSN.out HI.out⟩
          case measure => simp [intOf]; omega
    · obtain rfl : i = n := by omega
      have hall : ts.take i = ts := by rw [← HN.out]; exact List.take_length
      have HF : Hid (findV ts o = none) := by
        unfold Hid findV
        split
        · refine find_none ?_
          have := HL.out.2.2
          rwa [hall] at this
        · rfl
      have d0 := HL.out.2.1.cell0
      have d1 := HL.out.2.1.cell1
      have f0 := HL.out.2.1.frozen 0
      have f1 := HL.out.2.1.frozen 1
      clear hall hchk
      go_wp2_with fail
      obtain ⟨⟨rfl, rfl⟩, g2, g3⟩ := DONE.out HF.out wr HL.out.1 HL.out.2.1
      have r0 := g3.cell0
      have r1 := g3.cell1
      refine bodyPost_ret (v := .tuple #[tmV (0, 0), .bool false]) (by simp [results, Try.f20, go_sem, r0, r1]) rfl ?_
      exact ⟨rfl, g2⟩

set_option maxRecDepth 100000 in
set_option maxHeartbeats 2000000 in
theorem refHas_is (A : Option Addr) (cap : Nat) (ts : List Tm) (o : Int) (w : World) (hT : Got w A cap ts) (n : Nat) (hn : ts.length = n) (b : Bool) (hb : (findV ts o).isSome = b) :
    Calls Try.prog 21 #[.slice A n cap, .int .i64 o] w fun e W' => e = .returned (.bool b) ∧ Below w.heap.size w W' := by
  obtain ⟨y, hy⟩ : ∃ y, (findV ts o).getD (0, 0) = y := ⟨_, rfl⟩
  have c := refFind_is A cap ts o w hT n hn y hy b hb
  clear hT hn hb hy
  go_enter Try.func21, Try.ntmps21
  go_wp2_with (go_at_call 20; refine c.mono ?_; rintro e w1 ⟨rfl, hB1⟩)
  go_ret
  exact ⟨rfl, below_alloc hB1 _⟩

set_option maxRecDepth 100000 in
set_option maxHeartbeats 4000000 in
theorem refSize_is (A : Option Addr) (cap : Nat) (ts : List Tm) (w : World) (hT : Got w A cap ts) (n : Nat) (hn : ts.length = n) (e0 : Int) (he : sizeV ts = e0) :
    Calls Try.prog 26 #[.slice A n cap] w fun e W' => e = .returned (.int .i64 e0) ∧ Below w.heap.size w W' := by
  have hml : n ≤ 9223372036854775807 := by rw [← hn]; exact hT.1.1
  have HT : Hid (Got w A cap ts) := hT
  have HN : Hid (ts.length = n) := hn
  have HY : Hid (sizeV ts = e0) := he
  clear hT hn he
  go_enter Try.func26, Try.ntmps26
  go_wp2_with fail
  go_loopw [3, 4] (fun vn vi wr => ∃ (i : Nat) (z : Int), vi = .int .i64 i ∧ vn = .int .i64 z ∧ i ≤ n ∧ (0 ≤ z ∧ z ≤ 1125899906842625) ∧ Hid ((0 < i → chk (-1) ts = true) ∧ sizeL (ts.take i) = z ∧ Below w.heap.size w wr))
    (fun _ vi _ => n - (intOf vi).toNat)
  case atStart => exact ⟨0, 0, rfl, rfl, Nat.zero_le _, by omega, fun h => by omega, by simp [sizeL], Below.refl _ _⟩
  case round =>
    obtain ⟨i, z, rfl, rfl, hin, hz, HL⟩ := hrel
    by_cases hlt : i < n
    · have hi' : i < ts.length := by have := HN.out; omega
      obtain ⟨kb, ko, e3, hc0, hc1⟩ := (HT.out.later HL.out.2.2).1.2 i hi'
      obtain ⟨x, hx⟩ : ∃ x, ts[i]?.getD (0, 0) = x := ⟨_, rfl⟩
      rw [hx] at hc0 hc1
      have htk : ts.take (i + 1) = ts.take i ++ [x] := take_snoc hi' hx
      have hlt' : (i : Int) < (n : Int) := by omega
      cases hc : chk (-1) ts with
      | false =>
        have hi0 : i = 0 := by
          rcases Nat.eq_zero_or_pos i with h | h
          · exact h
          · have := HL.out.1 h; rw [hc] at this; cases this
        have hz0 : z = 0 := by rw [← HL.out.2.1, hi0]; rfl
        have he0 : e0 = 0 := by rw [← HY.out]; unfold sizeV; rw [if_neg (by rw [hc]; decide)]
        subst hz0; subst he0
        have cC := refCheck_is A cap ts wr (HT.out.later HL.out.2.2) n HN.out 60 (by unfold errI; rw [if_neg (by rw [hc]; decide)])
        clear hx htk hi' hc0 hc1 hc e3 hi0 hz
        go_wp2_with (go_at_call 19; refine cC.mono ?_; rintro e w1 ⟨rfl, hB1⟩)
        go_ret
        exact ⟨rfl, below_next HL.out.2.2 hB1⟩
      | true =>
        have cC := refCheck_is A cap ts wr (HT.out.later HL.out.2.2) n HN.out 0 (by unfold errI; rw [if_pos hc])
        have hok := chk_prefix' (List.take_prefix (i + 1) ts) hc
        have hb1 := sizeL_bound _ _ hok (by omega)
        have HSN : Hid (sizeL (ts.take (i + 1)) = z + (x.2 - x.1)) := by unfold Hid; rw [htk, sizeL_snoc, HL.out.2.1]
        rw [HSN.out] at hb1
        rw [htk, chk_snoc, Bool.and_eq_true] at hok
        have hb2 := okAt_iff.1 hok.2
        have hx0 := lastT_ge hok.1
        have hx1 : -1 < x.1 := by omega
        have hx2 : x.1 < x.2 ∧ x.2 ≤ 1125899906842624 := hb2.2
        have HCH : Hid (chk (-1) ts = true) := hc
        have HCC : Hid (∀ W, Below wr.heap.size wr W → W.cell? ⟨kb, ko + i * 2, none⟩ = some (.int .i64 x.1) ∧ W.cell? ⟨kb, ko + i * 2 + 1, none⟩ = some (.int .i64 x.2)) := fun W hW => ⟨(hW.cell (p := ⟨kb, ko + i * 2, none⟩) (lt_of_cell hc0)).trans hc0, (hW.cell (p := ⟨kb, ko + i * 2 + 1, none⟩) (lt_of_cell hc1)).trans hc1⟩
        have hw1 : IntKind.i64.wrap (z + x.2) = z + x.2 := by rw [IntKind.wrap_i64]; omega
        have hw2 : IntKind.i64.wrap (z + x.2 - x.1) = z + x.2 - x.1 := by rw [IntKind.wrap_i64]; omega
        subst e3
        clear hx htk hi' hc0 hc1 hc hok hb2 hx0
        go_upto_region 5 with (go_at_call 19; refine cC.mono ?_; rintro e w1 ⟨rfl, hB1⟩; have q0 := (HCC.out w1 hB1).1; have q1 := (HCC.out w1 hB1).2)
        go_quiet (fail)
        go_wp2_with fail
        go_roundw
        case rel => exact ⟨i + 1, z + x.2 - x.1, by go_num, by first | rfl | trivial, by omega, by omega, fun _ => (by first | exact HCH.out | trivial), by rw [HSN.out]; omega, below_drewN (below_next HL.out.2.2 hB1) _⟩
        case measure => simp [intOf]; omega
    · obtain rfl : i = n := by omega
      have hall : ts.take i = ts := by rw [← HN.out]; exact List.take_length
      have he0 : z = e0 := by
        rw [← HY.out, ← HL.out.2.1, hall]
        unfold sizeV
        split
        · rfl
        · rcases Nat.eq_zero_or_pos i with h | h
          · have hn := HN.out; rw [h] at hn
            rw [List.length_eq_zero_iff.1 hn]; rfl
          · rename_i hnc; exact (hnc (HL.out.1 h)).elim
      subst he0
      clear hall
      go_wp2_with fail
      go_ret
      exact ⟨rfl, HL.out.2.2⟩
end Go.Proofs.Ytiigipfcagmgnaa
