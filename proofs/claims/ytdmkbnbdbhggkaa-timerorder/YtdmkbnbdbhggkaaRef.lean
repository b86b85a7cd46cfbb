/- The contracts of the document's answers: Same and Check. -/
import Derived.Test.YtdmkbnbdbhggkaaHeads
import Derived.Laws.StructEq
import Derived.Deep.QuietTactic
import Derived.BigQuiet
import Derived.Deep.RegionWith
import Derived.Deep.RegionHeld3
import Derived.Deep.DeepCutAuto
namespace Go.Proofs.Ytdmkbnbdbhggkaa
open Go.ChangeShapes Go.WideShapes Go.ChangeAt Go.RowKit Go.Shelf
set_option linter.unusedVariables false

theorem ne31 (f t : Int) (w : World) : (binOp .neq 31 (.agg #[.int .i64 f, .int .i64 t]) (.agg #[.int .i64 f, .int .i64 t])).run Try.prog w = .ok (.bool false) w := by
  have hu : Try.prog.underlying 31 = some (.struct (Try.prog.fieldsOf 31)) := by kernel_rfl
  have hs : Try.prog.stoodInHeld 31 = false := by kernel_rfl
  have h := run_equalIn_struct (P := Try.prog) w 9999 31 #[.int .i64 f, .int .i64 t] #[.int .i64 f, .int .i64 t] hu hs
  simp only [binOp]
  simp [Op.equal, Op.maxDepth, h, Op.eqFields, go_sem]

set_option maxRecDepth 100000 in
set_option maxHeartbeats 2000000 in
theorem same_any (A B : Option Addr) (c d : Nat) (xs : List Tm) (w : World) (hA : TimsAt w A xs) (hB : TimsAt w B xs) :
    Calls Try.prog 15 #[.slice A xs.length c, .slice B xs.length d] w fun e w' => e = .returned (.bool true) ∧ ∃ n, w' = w.drewN n := by
  have HA : Hid (TimsAt w A xs) := hA
  have HB : Hid (TimsAt w B xs) := hB
  have hml : xs.length ≤ 9223372036854775807 := hA.1
  obtain ⟨n, hn⟩ : ∃ n, xs.length = n := ⟨_, rfl⟩
  have HN : Hid (xs.length = n) := hn
  rw [hn] at hml ⊢
  clear hA hB hn
  have hne := ne31
  go_enter Try.func15, Try.ntmps15
  go_wp2_with fail
  go_loopw [5] (fun vi wr => ∃ (i k : Nat), vi = .int .i64 i ∧ i ≤ n ∧ wr = w.drewN k)
    (fun vi _ => n - (intOf vi).toNat)
  case atStart => exact ⟨0, 0, rfl, Nat.zero_le _, rfl⟩
  case round =>
    obtain ⟨i, k, rfl, hin, rfl⟩ := hrel
    by_cases hlt : i < n
    · have hi' : i < xs.length := by have := HN.out; omega
      obtain ⟨kb, ko, rfl, hc0, hc1⟩ := HA.out.2 i hi'
      obtain ⟨lb, lo, rfl, hd0, hd1⟩ := HB.out.2 i hi'
      obtain ⟨f, hf⟩ : ∃ f, (xs[i]?.getD (0, 0)).1 = f := ⟨_, rfl⟩
      obtain ⟨t, ht⟩ : ∃ t, (xs[i]?.getD (0, 0)).2 = t := ⟨_, rfl⟩
      rw [hf] at hc0 hd0
      rw [ht] at hc1 hd1
      have hlt' : (i : Int) < (n : Int) := by omega
      clear hf ht hi'
      go_upto_region 6 with fail
      go_quiet (fail)
      go_wp2_with fail
      go_roundw
      case rel => exact ⟨i + 1, _, by go_num, by omega, rfl⟩
      case measure => simp [intOf]; omega
    · obtain rfl : i = n := by omega
      go_wp2_with fail
      go_ret
      exact ⟨rfl, k, rfl⟩

theorem take_last {ts : List Tm} {j : Nat} (h : j < ts.length) : lastK 0 (ts.take (j + 1)) = (ts[j]?.getD (0, 0)).1 := by
  rw [take_snoc h rfl, lastK_snoc]

set_option maxRecDepth 100000 in
set_option maxHeartbeats 4000000 in
theorem refCheck_any (A : Option Addr) (cap : Nat) (ts : List Tm) (w : World) (hT : TimsAt w A ts) :
    Calls Try.prog 17 #[.slice A ts.length cap] w fun e w' => e = .returned (.int .i64 (errI ts)) ∧ ∃ n, w' = w.drewN n := by
  have HT : Hid (TimsAt w A ts) := hT
  have hml : ts.length ≤ 9223372036854775807 := hT.1
  obtain ⟨n, hn⟩ : ∃ n, ts.length = n := ⟨_, rfl⟩
  have HN : Hid (ts.length = n) := hn
  rw [hn] at hml ⊢
  clear hT hn
  go_enter Try.func17, Try.ntmps17
  go_wp2_with fail
  go_loopw [3] (fun vi wr => ∃ (i k : Nat), vi = .int .i64 i ∧ i ≤ n ∧ wr = w.drewN k ∧ Hid (chk 0 (ts.take i) = true))
    (fun vi _ => n - (intOf vi).toNat)
  case atStart => exact ⟨0, 0, rfl, Nat.zero_le _, rfl, by simp [chk, Hid]⟩
  case round =>
    obtain ⟨i, k, rfl, hin, hwr, HC⟩ := hrel
    have hcw : ∀ a, wr.cell? a = w.cell? a := fun a => by rw [hwr]; exact World.cell?_drewN w k a
    have HW : Hid (wr = w.drewN k) := hwr
    clear hwr
    by_cases hlt : i < n
    · have hi' : i < ts.length := by have := HN.out; omega
      obtain ⟨kb, ko, rfl, hc0, hc1⟩ := HT.out.2 i hi'
      obtain ⟨x, hx⟩ : ∃ x, ts[i]?.getD (0, 0) = x := ⟨_, rfl⟩
      rw [hx, ← hcw] at hc0 hc1
      have htk : ts.take (i + 1) = ts.take i ++ [x] := take_snoc hi' hx
      have HS : Hid (chk 0 (ts.take (i + 1)) = okAt (lastK 0 (ts.take i)) x) := by
        unfold Hid; rw [htk, chk_snoc, HC.out, Bool.true_and]
      have HE : Hid (okAt (lastK 0 (ts.take i)) x = false → errI ts = 40) := fun h => by
        unfold errI
        rw [if_neg]
        rw [chk_prefix (List.take_prefix (i + 1) ts) (HS.out.trans h)]
        decide
      have hlt' : (i : Int) < (n : Int) := by omega
      clear hx htk
      cases hk : kindB x.1 with
      | false =>
        have HF : Hid (errI ts = 40) := HE.out (by simp [okAt, hk])
        (try clear hcw); go_upto_region 4 with fail
        go_quiet (first | (go_at_call 22; refine Calls.quiet_of_same (refKind_walk _ _)))
        go_wp2_with fail
        go_ret
        exact ⟨by rw [HF.out]; rfl, _, by rw [HW.out]; exact World.drewN_drewN _ _ _⟩
      | true =>
        cases ht : timeB x.2 with
        | false =>
          have HF : Hid (errI ts = 40) := HE.out (by simp [okAt, ht])
          (try clear hcw); go_upto_region 4 with fail
          go_quiet (first | (go_at_call 22; refine Calls.quiet_of_same (refKind_walk _ _)) | (go_at_call 23; refine Calls.quiet_of_same (refTime_walk _ _)))
          go_wp2_with fail
          go_ret
          exact ⟨by rw [HF.out]; rfl, _, by rw [HW.out]; exact World.drewN_drewN _ _ _⟩
        | true =>
          have hk1 : 1 ≤ x.1 := by simp [kindB] at hk; omega
          cases i with
          | zero =>
            have hz0 : wr.cell? ⟨kb, ko, none⟩ = some (.int .i64 x.1) := hc0
            have hz1 : wr.cell? ⟨kb, ko + 1, none⟩ = some (.int .i64 x.2) := hc1
            have HF : Hid (chk 0 (ts.take (0 + 1)) = true) := by
              have h1 : (0 : Int) < x.1 := by omega
              unfold Hid; rw [HS.out]; simp [okAt, hk, ht, lastK, h1]
            (try clear hcw); go_upto_region 4 with fail
            go_quiet (first | (go_at_call 22; refine Calls.quiet_of_same (refKind_walk _ _)) | (go_at_call 23; refine Calls.quiet_of_same (refTime_walk _ _)))
            go_wp2_with fail
            go_roundw
            case rel => exact ⟨0 + 1, _, by go_num, by omega, by rw [HW.out]; exact World.drewN_drewN _ _ _, HF.out⟩
            case measure => simp [intOf]; omega
          | succ j =>
            obtain ⟨_, _, eA, hp0, _⟩ := HT.out.2 j (by omega)
            cases eA
            have hlk : lastK 0 (ts.take (j + 1)) = (ts[j]?.getD (0, 0)).1 := take_last (by omega)
            obtain ⟨q, hq⟩ : ∃ q, (ts[j]?.getD (0, 0)).1 = q := ⟨_, rfl⟩
            rw [hq, ← hcw] at hp0
            rw [hq] at hlk
            clear hcw
            rw [hlk] at HS HE
            clear hlk hq hi'
            by_cases hle : x.1 ≤ q
            · have HF : Hid (errI ts = 40) := HE.out (by have hn : ¬ q < x.1 := by omega
                                                         simp [okAt, hn])
              have hd : decide (x.1 ≤ q) = true := by simpa using hle
              (try clear hcw); go_upto_region 4 with fail
              go_quiet (first | (go_at_call 22; refine Calls.quiet_of_same (refKind_walk _ _)) | (go_at_call 23; refine Calls.quiet_of_same (refTime_walk _ _)))
              go_wp2_with fail
              go_ret
              exact ⟨by rw [HF.out]; rfl, _, by rw [HW.out]; exact World.drewN_drewN _ _ _⟩
            · have HF : Hid (chk 0 (ts.take (j + 1 + 1)) = true) := by
                have hn : q < x.1 := by omega
                unfold Hid; rw [HS.out]; simp [okAt, hk, ht, hn]
              have hd : decide (x.1 ≤ q) = false := by simpa using hle
              (try clear hcw); go_upto_region 4 with fail
              go_quiet (first | (go_at_call 22; refine Calls.quiet_of_same (refKind_walk _ _)) | (go_at_call 23; refine Calls.quiet_of_same (refTime_walk _ _)))
              go_wp2_with fail
              go_roundw
              case rel => exact ⟨j + 1 + 1, _, by go_num, by omega, by rw [HW.out]; exact World.drewN_drewN _ _ _, HF.out⟩
              case measure => simp [intOf]; omega
    · obtain rfl : i = n := by omega
      have HF : Hid (errI ts = 0) := by
        have := HC.out
        rw [← HN.out, List.take_length] at this
        unfold Hid errI; rw [if_pos this]
      clear hcw
      go_wp2_with fail
      go_ret
      exact ⟨by rw [HF.out]; rfl, k, HW.out⟩
end Go.Proofs.Ytdmkbnbdbhggkaa
