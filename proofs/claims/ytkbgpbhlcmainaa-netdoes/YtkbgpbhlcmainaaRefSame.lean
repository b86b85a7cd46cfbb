/- The contract of the document's Same. -/
import Derived.Test.YtkbgpbhlcmainaaOld
import Derived.WalkSmall
namespace Go.Proofs.Ytkbgpbhlcmainaa
open Go.ChangeShapes Go.WideShapes Go.ChangeAt Go.RowKit
set_option linter.unusedVariables false

theorem same_quiet (a b : Option Addr) (c d : Nat) (xs ys : List Int) (w : World) (ha : BytesAt w a xs) (hb : BytesAt w b ys) (q : Bool) (hq : decide (xs = ys) = q) :
    Calls Try.prog 24 #[.slice a xs.length c, .slice b ys.length d] w fun e w' => e = .returned (.bool q) ∧ w' = w := by
  subst hq
  exact same_any a b c d xs ys w ha hb

theorem ne_at {la lb : List Dg} {i : Nat} {x y : Dg} (hx : la[i]?.getD z0 = x) (hy : lb[i]?.getD z0 = y) (h : x ≠ y) : la ≠ lb := fun e => h (by rw [← hx, ← hy, e])

set_option maxRecDepth 100000 in
set_option maxHeartbeats 2000000 in
theorem refSame_any (A B : Option Addr) (n m c d : Nat) (la lb : List Dg) (w : World) (hA : DatsAt w A n c la) (hB : DatsAt w B m d lb) (q : Bool) (hq : decide (la = lb) = q) :
    Calls Try.prog 16 #[.slice A n c, .slice B m d] w fun e w' => e = .returned (.bool q) ∧ Below w.heap.size w w' := by
  have hr := hA.reach
  have hln := hA.len
  have hlm := hB.len
  by_cases hnm : n = m
  · subst hnm
    have HA : Hid (DatsAt w A n c la) := hA
    have HB : Hid (DatsAt w B n d lb) := hB
    have HQ : Hid (decide (la = lb) = q) := hq
    clear hA hB hq hln hlm
    go_enter Try.func16, Try.ntmps16
    go_wp2_with fail
    go_loopw [5] (fun vi wr => ∃ (i : Nat), vi = .int .i64 i ∧ i ≤ n ∧ Hid (Below w.heap.size w wr) ∧ Hid (la.take i = lb.take i))
      (fun vi _ => n - (intOf vi).toNat)
    case atStart => exact ⟨0, rfl, Nat.zero_le _, Below.refl _ _, by simp [Hid]⟩
    case round =>
      obtain ⟨i, rfl, hin, HW, HT⟩ := hrel
      by_cases hlt : i < n
      · obtain ⟨b, o, x, rfl, hx, hokx, hc0, hc1⟩ := (HA.out.later HW.out).get i hlt
        obtain ⟨b2, o2, y, rfl, hy, hoky, hd0, hd1⟩ := (HB.out.later HW.out).get i hlt
        have hlt' : (i : Int) < (n : Int) := by omega
        by_cases ht : x.t = y.t
        · have hne : (x.t != y.t) = false := by simpa using ht
          by_cases hbs : x.bs = y.bs
          · have HS : Hid (la.take (i + 1) = lb.take (i + 1)) := by
              unfold Hid
              rw [take_snoc (by rw [HA.out.len]; exact hlt) hx, take_snoc (by rw [HB.out.len]; exact hlt) hy, HT.out, show x.dg = y.dg from by unfold En.dg; rw [ht, hbs]]
            have HK : Hid (∀ n', Calls Try.prog 24 #[.slice x.a x.bs.length x.c, .slice y.a y.bs.length y.c] (wr.drewN n') fun e w' => e = .returned (.bool true) ∧ w' = wr.drewN n') := fun n' => same_quiet x.a y.a x.c y.c x.bs y.bs (wr.drewN n') hokx.1 hoky.1 true (by simpa using hbs)
            clear hx hy hokx hoky ht hbs
            go_upto_region 6 with fail
            go_quiet (first | (go_at_call 24; refine Calls.quiet_of_same (HK.out _)))
            go_wp2_with fail
            go_roundw
            case rel => exact ⟨i + 1, by go_num, by omega, below_drewN HW.out _, HS⟩
            case measure => simp [intOf]; omega
          · have HF : Hid (q = false) := by
              unfold Hid
              rw [← HQ.out, decide_eq_false_iff_not]
              exact ne_at hx hy (fun e => hbs (congrArg Prod.fst e))
            have HK : Hid (∀ n', Calls Try.prog 24 #[.slice x.a x.bs.length x.c, .slice y.a y.bs.length y.c] (wr.drewN n') fun e w' => e = .returned (.bool false) ∧ w' = wr.drewN n') := fun n' => same_quiet x.a y.a x.c y.c x.bs y.bs (wr.drewN n') hokx.1 hoky.1 false (by simpa using hbs)
            clear hx hy hokx hoky ht hbs
            go_upto_region 6 with fail
            go_quiet (first | (go_at_call 24; refine Calls.quiet_of_same (HK.out _)))
            go_wp2_with fail
            go_ret
            exact ⟨by rw [HF.out]; rfl, below_drewN HW.out _⟩
        · have hne : (x.t != y.t) = true := by simpa using ht
          have HF : Hid (q = false) := by
            unfold Hid
            rw [← HQ.out, decide_eq_false_iff_not]
            exact ne_at hx hy (fun e => ht (congrArg Prod.snd e))
          clear hx hy hokx hoky ht
          go_upto_region 6 with fail
          go_quiet (fail)
          go_wp2_with fail
          go_ret
          exact ⟨by rw [HF.out]; rfl, below_drewN HW.out _⟩
      · obtain rfl : i = n := by omega
        have HF : Hid (q = true) := by
          have h := HT.out
          rw [take_all HA.out, take_all HB.out] at h
          unfold Hid
          rw [← HQ.out, decide_eq_true_iff]
          exact h
        go_wp2_with fail
        go_ret
        exact ⟨by rw [HF.out]; rfl, HW.out⟩
  · obtain rfl : q = false := by
      rw [← hq, decide_eq_false_iff_not]
      intro e
      rw [e] at hln
      omega
    have hne : ((n : Int) != (m : Int)) = true := by simp; omega
    have hne' : (n : Int) ≠ (m : Int) := by omega
    clear hA hB hq hln hlm
    go_enter Try.func16, Try.ntmps16
    go_wp2_with fail
    go_ret
    exact ⟨rfl, Below.refl _ _⟩
end Go.Proofs.Ytkbgpbhlcmainaa
