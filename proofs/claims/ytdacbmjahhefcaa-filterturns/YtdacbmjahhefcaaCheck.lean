/- The contract of Check. -/
import Derived.Test.YtdacbmjahhefcaaChk4
namespace Go.Proofs.Ytdacbmjahhefcaa
open Go.ChangeShapes Go.WideShapes Go.ChangeAt Go.RowKit Go.Shelf
set_option linter.unusedVariables false
set_option linter.unusedSimpArgs false

theorem take_last {l : List Tm} {j : Nat} (h : j < l.length) : lastE none (l.take (j + 1)) = some (l[j]?.getD (0, 0)) := by
  rw [take_snoc h rfl, lastE_snoc]
theorem box_new (W : World) (x : Tm) : BoxT (W.alloc (.cells #[.int .i64 x.1, .int .i64 x.2] 28)) W.heap.size x := BoxT.new W x
set_option maxRecDepth 100000 in
set_option maxHeartbeats 4000000 in
theorem check_any (A : Option Addr) (cap : Nat) (ts : List Tm) (m : Bool) (w : World) (hT : TimsAt w A ts) :
    Calls Try.prog 13 #[.slice A ts.length cap, .bool m] w fun e w' => e = .returned (.int .i64 (errI m ts)) ∧ Below w.heap.size w w' := by
  have HT : Hid (TimsAt w A ts) := hT
  have hml : ts.length ≤ 9223372036854775807 := hT.1
  obtain ⟨n, hn⟩ : ∃ n, ts.length = n := ⟨_, rfl⟩
  have HN : Hid (ts.length = n) := hn
  rw [hn] at hml ⊢
  clear hT hn
  go_enter Try.func13, Try.ntmps13
  go_wp2_with fail
  go_loopw [9] (fun vi wr => ∃ (i : Nat), vi = .int .i64 i ∧ i ≤ n ∧ Hid (chk m none (ts.take i) = true) ∧ Hid (Below w.heap.size w wr))
    (fun vi _ => n - (intOf vi).toNat)
  case atStart => exact ⟨0, rfl, Nat.zero_le _, by simp [chk, Hid], Below.refl _ _⟩
  case round =>
    obtain ⟨i, rfl, hin, HC, HB⟩ := hrel
    by_cases hlt : i < n
    · have hi' : i < ts.length := by have := HN.out; omega
      obtain ⟨kb, ko, rfl, hc0, hc1⟩ := HT.out.2 i hi'
      obtain ⟨x, hx⟩ : ∃ x, ts[i]?.getD (0, 0) = x := ⟨_, rfl⟩
      rw [hx] at hc0 hc1
      have hw0 : wr.cell? ⟨kb, ko + i * 2, none⟩ = some (.int .i64 x.1) := (HB.out.cell (p := ⟨kb, ko + i * 2, none⟩) (lt_of_cell hc0)).trans hc0
      have hw1 : wr.cell? ⟨kb, ko + i * 2 + 1, none⟩ = some (.int .i64 x.2) := (HB.out.cell (p := ⟨kb, ko + i * 2 + 1, none⟩) (lt_of_cell hc1)).trans hc1
      have htk : ts.take (i + 1) = ts.take i ++ [x] := take_snoc hi' hx
      have HS : Hid (chk m none (ts.take (i + 1)) = okAt m (lastE none (ts.take i)) x) := by
        unfold Hid; rw [htk, chk_snoc, HC.out, Bool.true_and]
      have HE : Hid (okAt m (lastE none (ts.take i)) x = false → errI m ts = 2) := fun h => by
        unfold errI
        rw [if_neg]
        rw [chk_prefix (List.take_prefix (i + 1) ts) (HS.out.trans h)]
        decide
      have hlt' : (i : Int) < (n : Int) := by omega
      obtain ⟨p, hp⟩ : ∃ p, ts[i - 1]?.getD (0, 0) = p := ⟨_, rfl⟩
      obtain ⟨j, hj⟩ : ∃ j, i - 1 = j := ⟨_, rfl⟩
      have HP : Hid (decide (0 < (i : Int)) = true → (w.cell? ⟨kb, ko + j * 2, none⟩ = some (.int .i64 p.1) ∧ w.cell? ⟨kb, ko + j * 2 + 1, none⟩ = some (.int .i64 p.2)) ∧ lastE none (ts.take i) = some p) := fun h => by
        have h0 : 0 < i := by simpa using h
        obtain ⟨_, _, e, h1, h2⟩ := HT.out.2 j (by omega)
        cases e
        rw [hj] at hp
        rw [hp] at h1 h2
        refine ⟨⟨h1, h2⟩, ?_⟩
        have := take_last (l := ts) (j := j) (by omega)
        rw [hp] at this
        rw [show i = j + 1 from by omega]
        exact this
      have HJ : Hid (decide (0 < (i : Int)) = true → IntKind.i64.wrap ((i : Int) - 1) = (j : Int) ∧ (j : Int) < (n : Int)) := fun h => by
        have h0 : 0 < i := by simpa using h
        refine ⟨?_, by omega⟩
        rw [IntKind.wrap_i64]
        omega
      have HZ : Hid (decide (0 < (i : Int)) = false → lastE none (ts.take i) = none) := fun h => by
        have h0 : i = 0 := by simpa using h
        subst h0
        rfl
      clear hx htk hp hj hc0 hc1 hi'
      go_upto_region 4 with fail
      have hsz := HB.out.size
      have hbx := BoxT.new wr x
      have hB1 : Below w.heap.size w (wr.alloc (.cells #[.int .i64 x.1, .int .i64 x.2] 28)) := HB.out.alloc hsz _
      obtain ⟨W1, hW1⟩ : ∃ W1, wr.alloc (.cells #[.int .i64 x.1, .int .i64 x.2] 28) = W1 := ⟨_, rfl⟩
      rw [hW1] at hbx hB1 ⊢
      have HB1 : Hid (Below w.heap.size w W1) := hB1
      have HX : Hid (BoxT W1 wr.heap.size x) := hbx
      clear hW1 hB1 hbx hw0 hw1 HB
      obtain ⟨d2, hd2⟩ : ∃ d2, (!entB x) = d2 := ⟨_, rfl⟩
      obtain ⟨b5, hb5⟩ : ∃ b5, decide (0 < (i : Int)) = b5 := ⟨_, rfl⟩
      obtain ⟨d15, hd15⟩ : ∃ d15, (!folB p x m) = d15 := ⟨_, rfl⟩
      obtain ⟨d16, hd16⟩ : ∃ d16, (b5 && d15) = d16 := ⟨_, rfl⟩
      obtain ⟨d17, hd17⟩ : ∃ d17, (d2 || d16) = d17 := ⟨_, rfl⟩
      have HD : Hid ((!okAt m (lastE none (ts.take i)) x) = d17) := by
        unfold Hid okAt
        rw [← hd17, ← hd2, ← hd16, ← hd15]
        cases h5 : b5 with
        | true => rw [(HP.out (hb5.trans h5)).2]; simp
        | false => rw [HZ.out (hb5.trans h5)]; simp
      refine chk4_reg rfl wr.heap.size kb ko j n cap (i : Int) x p m rfl rfl rfl rfl rfl rfl HJ.out ⟨HX.out, ⟨rfl, rfl, rfl, Nat.le_refl _, fun _ _ => rfl⟩, fun h => ?_⟩ hd2 hb5 hd15 hd16 hd17 ?_
      · obtain ⟨⟨h1, h2⟩, _⟩ := HP.out h
        exact ⟨(HB1.out.cell (p := ⟨kb, ko + j * 2, none⟩) (lt_of_cell h1)).trans h1, (HB1.out.cell (p := ⟨kb, ko + j * 2 + 1, none⟩) (lt_of_cell h2)).trans h2⟩
      intro T2 W2 hT2 hS2
      have HB2 : Hid (Below w.heap.size w W2) := Below.on HB1.out hS2.2.1
      clear hS2 hd2 hb5 hd15 hd16 hd17 HX HP HJ HZ HB1
      simp only [Act.put, List.setIfInBounds_toArray, List.set_cons_zero, List.set_cons_succ]
      rw [hT2]
      clear hT2
      cases d17 with
      | true =>
        have HF : Hid (errI m ts = 2) := HE.out (by have := HD.out; simpa using this)
        go_wp2_with fail
        go_ret
        exact ⟨by rw [HF.out]; rfl, HB2.out⟩
      | false =>
        have HF : Hid (chk m none (ts.take (i + 1)) = true) := by have := HD.out; unfold Hid; rw [HS.out]; simpa using this
        go_wp2_with fail
        go_roundw
        case rel => exact ⟨i + 1, by go_num, by omega, HF.out, HB2.out⟩
        case measure => simp [intOf]; omega
    · obtain rfl : i = n := by omega
      have HF : Hid (errI m ts = 0) := by
        have := HC.out
        rw [← HN.out, List.take_length] at this
        unfold Hid errI; rw [if_pos this]
      go_wp2_with fail
      go_ret
      exact ⟨by rw [HF.out]; rfl, HB.out⟩
end Go.Proofs.Ytdacbmjahhefcaa
