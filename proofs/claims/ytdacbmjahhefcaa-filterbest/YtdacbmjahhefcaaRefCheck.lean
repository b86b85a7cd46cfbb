/- The document's Check; Same. -/
import Derived.Test.YtdacbmjahhefcaaRefC
namespace Go.Proofs.Ytdacbmjahhefcaa
open Go.ChangeShapes Go.WideShapes Go.ChangeAt Go.RowKit Go.Shelf
set_option linter.unusedVariables false
set_option linter.unusedSimpArgs false

theorem rtake_last {l : List Tm} {j : Nat} (h : j < l.length) : lastE none (l.take (j + 1)) = some (l[j]?.getD (0, 0)) := by
  rw [take_snoc h rfl, lastE_snoc]
theorem ne28 (f t : Int) (w : World) : (binOp .neq 28 (.agg #[.int .i64 f, .int .i64 t]) (.agg #[.int .i64 f, .int .i64 t])).run Try.prog w = .ok (.bool false) w := by
  have hu : Try.prog.underlying 28 = some (.struct (Try.prog.fieldsOf 28)) := by kernel_rfl
  have hs : Try.prog.stoodInHeld 28 = false := by kernel_rfl
  have h := run_equalIn_struct (P := Try.prog) w 9999 28 #[.int .i64 f, .int .i64 t] #[.int .i64 f, .int .i64 t] hu hs
  simp only [binOp]
  simp [Op.equal, Op.maxDepth, h, Op.eqFields, go_sem]
set_option maxRecDepth 100000 in
set_option maxHeartbeats 4000000 in
theorem same_any (A B : Option Addr) (c d : Nat) (xs : List Tm) (w : World) (hA : TimsAt w A xs) (hB : TimsAt w B xs) (n : Nat) (hn : xs.length = n) :
    Calls Try.prog 12 #[.slice A n c, .slice B n d] w fun e w' => e = .returned (.bool true) ∧ Below w.heap.size w w' := by
  have HA : Hid (TimsAt w A xs) := hA
  have HB : Hid (TimsAt w B xs) := hB
  have hml : xs.length ≤ 9223372036854775807 := hA.1
  have HN : Hid (xs.length = n) := hn
  rw [hn] at hml
  clear hA hB hn
  have hne := ne28
  go_enter Try.func12, Try.ntmps12
  go_wp2_with fail
  go_loopw [5] (fun vi wr => ∃ (i k : Nat), vi = .int .i64 i ∧ i ≤ n ∧ wr = w.drewN k)
    (fun vi _ => n - (intOf vi).toNat)
  case atStart => exact ⟨0, 0, rfl, Nat.zero_le _, rfl⟩
  case round =>
    obtain ⟨i, k, rfl, hin, rfl⟩ := hrel
    by_cases hlt : i < n
    · have hi' : i < xs.length := by have := HN.out; omega
      obtain ⟨kb, ko, rfl, hc0, hc1⟩ := HA.out.2 i hi'
      obtain ⟨lb, lo, rfl, hd0, hd1⟩ := HB.out.2 i hi'
      obtain ⟨f, hf⟩ : ∃ f, (xs[i]?.getD (0, 0)).1 = f := ⟨_, rfl⟩
      obtain ⟨t, ht⟩ : ∃ t, (xs[i]?.getD (0, 0)).2 = t := ⟨_, rfl⟩
      rw [hf] at hc0 hd0
      rw [ht] at hc1 hd1
      have hlt' : (i : Int) < (n : Int) := by omega
      clear hf ht hi'
      go_upto_region 6 with fail
      go_quiet (fail)
      go_wp2_with fail
      go_roundw
      case rel => exact ⟨i + 1, _, by go_num, by omega, rfl⟩
      case measure => simp [intOf]; omega
    · obtain rfl : i = n := by omega
      go_wp2_with fail
      go_ret
      exact ⟨rfl, rfl, rfl, rfl, Nat.le_refl _, fun _ _ => rfl⟩
set_option maxRecDepth 100000 in
set_option maxHeartbeats 4000000 in
theorem refCheck_any (A : Option Addr) (cap : Nat) (ts : List Tm) (m : Bool) (w : World) (hT : TimsAt w A ts) (n : Nat) (hn : ts.length = n) (q : Int) (hq : errI m ts = q) :
    Calls Try.prog 14 #[.slice A n cap, .bool m] w fun e w' => e = .returned (.int .i64 q) ∧ Below w.heap.size w w' := by
  subst hq
  have HT : Hid (TimsAt w A ts) := hT
  have hml : ts.length ≤ 9223372036854775807 := hT.1
  have HN : Hid (ts.length = n) := hn
  rw [hn] at hml
  clear hT hn
  go_enter Try.func14, Try.ntmps14
  go_wp2_with fail
  go_loopw [5] (fun vi wr => ∃ (i : Nat), vi = .int .i64 i ∧ i ≤ n ∧ Hid (chk m none (ts.take i) = true) ∧ Hid (Below w.heap.size w wr))
    (fun vi _ => n - (intOf vi).toNat)
  case atStart => exact ⟨0, rfl, Nat.zero_le _, by simp [chk, Hid], Below.refl _ _⟩
  case round =>
    obtain ⟨i, rfl, hin, HC, HB⟩ := hrel
    by_cases hlt : i < n
    · have hi' : i < ts.length := by have := HN.out; omega
      obtain ⟨kb, ko, rfl, hc0, hc1⟩ := HT.out.2 i hi'
      obtain ⟨x, hx⟩ : ∃ x, ts[i]?.getD (0, 0) = x := ⟨_, rfl⟩
      rw [hx] at hc0 hc1
      have HX : Hid (∀ U, Below w.heap.size w U → U.cell? ⟨kb, ko + i * 2, none⟩ = some (.int .i64 x.1) ∧ U.cell? ⟨kb, ko + i * 2 + 1, none⟩ = some (.int .i64 x.2)) := fun U hU =>
        ⟨(hU.cell (p := ⟨kb, ko + i * 2, none⟩) (lt_of_cell hc0)).trans hc0, (hU.cell (p := ⟨kb, ko + i * 2 + 1, none⟩) (lt_of_cell hc1)).trans hc1⟩
      have htk : ts.take (i + 1) = ts.take i ++ [x] := take_snoc hi' hx
      have HS : Hid (chk m none (ts.take (i + 1)) = okAt m (lastE none (ts.take i)) x) := by
        unfold Hid; rw [htk, chk_snoc, HC.out, Bool.true_and]
      have HE : Hid (okAt m (lastE none (ts.take i)) x = false → errI m ts = 2) := fun h => by
        unfold errI
        rw [if_neg]
        rw [chk_prefix (List.take_prefix (i + 1) ts) (HS.out.trans h)]
        decide
      have hlt' : (i : Int) < (n : Int) := by omega
      obtain ⟨p, hp⟩ : ∃ p, ts[i - 1]?.getD (0, 0) = p := ⟨_, rfl⟩
      obtain ⟨j, hj⟩ : ∃ j, i - 1 = j := ⟨_, rfl⟩
      have HP : Hid (decide (0 < i) = true → lastE none (ts.take i) = some p ∧ ∀ U, Below w.heap.size w U → IntKind.i64.wrap ((i : Int) - 1) = (j : Int) ∧ (j : Int) < (n : Int) ∧ U.cell? ⟨kb, ko + j * 2, none⟩ = some (.int .i64 p.1) ∧ U.cell? ⟨kb, ko + j * 2 + 1, none⟩ = some (.int .i64 p.2)) := fun h => by
        have h0 : 0 < i := by simpa using h
        obtain ⟨_, _, e, h1, h2⟩ := HT.out.2 j (by omega)
        cases e
        rw [hj] at hp
        rw [hp] at h1 h2
        refine ⟨?_, fun U hU => ⟨?_, by omega, (hU.cell (p := ⟨kb, ko + j * 2, none⟩) (lt_of_cell h1)).trans h1, (hU.cell (p := ⟨kb, ko + j * 2 + 1, none⟩) (lt_of_cell h2)).trans h2⟩⟩
        · have := rtake_last (l := ts) (j := j) (by omega)
          rw [hp] at this
          rw [show i = j + 1 from by omega]
          exact this
        · rw [IntKind.wrap_i64]; omega
      have HZ : Hid (decide (0 < i) = false → lastE none (ts.take i) = none) := fun h => by
        have h0 : i = 0 := by simpa using h
        subst h0
        rfl
      clear hx htk hp hj hc0 hc1 hi'
      go_upto_region 4 with fail
      obtain ⟨b1, hb1⟩ : ∃ b1, decide (0 < i) = b1 := ⟨_, rfl⟩
      obtain ⟨d15, hd15⟩ : ∃ d15, ((!timeB x.1) || (!valB x.2)) = d15 := ⟨_, rfl⟩
      obtain ⟨b31, hb31⟩ : ∃ b31, decide (x.1 ≤ p.1) = b31 := ⟨_, rfl⟩
      obtain ⟨d32, hd32⟩ : ∃ d32, (b1 && b31) = d32 := ⟨_, rfl⟩
      obtain ⟨d33, hd33⟩ : ∃ d33, (d15 || d32) = d33 := ⟨_, rfl⟩
      obtain ⟨b16, hb16⟩ : ∃ b16, decide (p.2 ≤ x.2) = b16 := ⟨_, rfl⟩
      obtain ⟨b33, hb33⟩ : ∃ b33, decide (x.2 ≤ p.2) = b33 := ⟨_, rfl⟩
      obtain ⟨d35, hd35⟩ : ∃ d35, ((m && b16) || ((!m) && b33)) = d35 := ⟨_, rfl⟩
      obtain ⟨d36, hd36⟩ : ∃ d36, (b1 && d35) = d36 := ⟨_, rfl⟩
      have HD : Hid ((!okAt m (lastE none (ts.take i)) x) = (d33 || d36)) := by
        unfold Hid okAt entB
        rw [← hd33, ← hd36, ← hd15, ← hd32, ← hb31, ← hd35, ← hb16, ← hb33]
        cases h5 : b1 with
        | true =>
          rw [(HP.out (hb1.trans h5)).1]
          simp only [Option.all_some, folB, beatB, Bool.true_and]
          have e1 : decide (p.1 < x.1) = !decide (x.1 ≤ p.1) := by rw [← decide_not]; congr 1; simp
          have e2 : decide (x.2 < p.2) = !decide (p.2 ≤ x.2) := by rw [← decide_not]; congr 1; simp
          have e3 : decide (p.2 < x.2) = !decide (x.2 ≤ p.2) := by rw [← decide_not]; congr 1; simp
          rw [e1, e2, e3]
          cases timeB x.1 <;> cases valB x.2 <;> cases decide (x.1 ≤ p.1) <;> cases decide (p.2 ≤ x.2) <;> cases decide (x.2 ≤ p.2) <;> cases m <;> rfl
        | false =>
          rw [HZ.out (hb1.trans h5)]
          cases timeB x.1 <;> cases valB x.2 <;> rfl
      have HJ : Hid (∀ U, Below w.heap.size w U → decide (0 < i) = true → IntKind.i64.wrap ((i : Int) - 1) = (j : Int) ∧ (j : Int) < (n : Int) ∧ U.cell? ⟨kb, ko + j * 2, none⟩ = some (.int .i64 p.1) ∧ U.cell? ⟨kb, ko + j * 2 + 1, none⟩ = some (.int .i64 p.2)) := fun U hU h => (HP.out h).2 U hU
      have H6 : Hid (decide (0 < i) = b1 ∧ decide (p.2 ≤ x.2) = b16 ∧ decide (x.2 ≤ p.2) = b33 ∧ ((m && b16) || ((!m) && b33)) = d35 ∧ (b1 && d35) = d36) := ⟨hb1, hb16, hb33, hd35, hd36⟩
      refine rck4_reg rfl kb ko i j n cap x p rfl rfl rfl rfl (HX.out wr HB.out).1 (HX.out wr HB.out).2 hlt' (HJ.out wr HB.out) rfl rfl hd15 hb1 hb31 hd32 hd33 ?_
      intro T2 W2 hT2 hS2
      have HB2 : Hid (Below w.heap.size w W2) := Below.on HB.out hS2.2
      clear hS2 hb1 hd15 hb31 hd32 hd33 hb16 hb33 hd35 hd36 HP HZ HB
      simp only [Act.put, List.setIfInBounds_toArray, List.set_cons_zero, List.set_cons_succ]
      rw [hT2]
      clear hT2
      cases d33 with
      | true =>
        have HF : Hid (errI m ts = 2) := HE.out (by have := HD.out; simpa using this)
        go_wp2_with fail
        go_ret
        exact ⟨by rw [HF.out]; rfl, HB2.out⟩
      | false =>
        go_upto_region 6 with fail
        refine rck6_reg rfl kb ko i j n cap x p m rfl rfl rfl (HX.out W2 HB2.out).1 (HX.out W2 HB2.out).2 hlt' (HJ.out W2 HB2.out) H6.out.1 H6.out.2.1 rfl rfl H6.out.2.2.1 rfl H6.out.2.2.2.1 H6.out.2.2.2.2 ?_
        intro T3 W3 hT3 hS3
        have HB3 : Hid (Below w.heap.size w W3) := Below.on HB2.out hS3.2
        clear hS3 HB2
        simp only [Act.put, List.setIfInBounds_toArray, List.set_cons_zero, List.set_cons_succ]
        rw [hT3]
        clear hT3
        cases d36 with
        | true =>
          have HF : Hid (errI m ts = 2) := HE.out (by have := HD.out; simpa using this)
          go_wp2_with fail
          go_ret
          exact ⟨by rw [HF.out]; rfl, HB3.out⟩
        | false =>
          have HF : Hid (chk m none (ts.take (i + 1)) = true) := by have := HD.out; unfold Hid; rw [HS.out]; simpa using this
          go_wp2_with fail
          go_roundw
          case rel => exact ⟨i + 1, by go_num, by omega, HF.out, HB3.out⟩
          case measure => simp [intOf]; omega
    · obtain rfl : i = n := by omega
      have HF : Hid (errI m ts = 0) := by
        have := HC.out
        rw [← HN.out, List.take_length] at this
        unfold Hid errI; rw [if_pos this]
      go_wp2_with fail
      go_ret
      exact ⟨by rw [HF.out]; rfl, HB.out⟩
end Go.Proofs.Ytdacbmjahhefcaa
