/- The contract of Check. -/
import Derived.Test.YtfkkpianlmpknaaLeaf
namespace Go.Proofs.Ytfkkpianlmpknaa
open Go.ChangeShapes Go.WideShapes Go.ChangeAt Go.RowKit Go.Shelf
set_option linter.unusedVariables false
set_option linter.unusedSimpArgs false
attribute [local go_sem] Oper.semAt_some

set_option maxRecDepth 100000 in
set_option maxHeartbeats 4000000 in
theorem chk_is (ks ke kr : Int) (kn : Bool) (kf km ko kl : Int) (r : Int) (hr : chkE ⟨ks, ke, kr, kn, kf, km, ko, kl⟩ = r) (w : World) : Calls Try.prog 11 #[.agg #[.int .i64 ks, .int .i64 ke, .int .i64 kr, .bool kn, .int .i64 kf, .int .i64 km, .int .i64 ko, .int .i64 kl]] w fun e w' => e = .returned (.int .i64 r) ∧ Below w.heap.size w w' := by
  have HR : Hid (chkE ⟨ks, ke, kr, kn, kf, km, ko, kl⟩ = r) := hr
  have HB : Hid (Below w.heap.size w (w.alloc (.cells #[.int .i64 ks, .int .i64 ke, .int .i64 kr, .bool kn, .int .i64 kf, .int .i64 km, .int .i64 ko, .int .i64 kl] 23))) := below_new w _
  clear hr
  have i0 : ∀ W, (Instr.index 60 (.agg #[.int .i64 ks, .int .i64 ke, .int .i64 kr, .int .i64 kf, .int .i64 kl]) (.int .i64 0)).run Try.prog W = .ok (.int .i64 ks) W := fun _ => by kernel_rfl
  have i1 : ∀ W, (Instr.index 60 (.agg #[.int .i64 ks, .int .i64 ke, .int .i64 kr, .int .i64 kf, .int .i64 kl]) (.int .i64 1)).run Try.prog W = .ok (.int .i64 ke) W := fun _ => by kernel_rfl
  have i2 : ∀ W, (Instr.index 60 (.agg #[.int .i64 ks, .int .i64 ke, .int .i64 kr, .int .i64 kf, .int .i64 kl]) (.int .i64 2)).run Try.prog W = .ok (.int .i64 kr) W := fun _ => by kernel_rfl
  have i3 : ∀ W, (Instr.index 60 (.agg #[.int .i64 ks, .int .i64 ke, .int .i64 kr, .int .i64 kf, .int .i64 kl]) (.int .i64 3)).run Try.prog W = .ok (.int .i64 kf) W := fun _ => by kernel_rfl
  have i4 : ∀ W, (Instr.index 60 (.agg #[.int .i64 ks, .int .i64 ke, .int .i64 kr, .int .i64 kf, .int .i64 kl]) (.int .i64 4)).run Try.prog W = .ok (.int .i64 kl) W := fun _ => by kernel_rfl
  go_enter Try.func11, Try.ntmps11
  go_wp2_with fail
  go_loopw [16] (fun vi wr => ∃ (i : Nat), vi = .int .i64 i ∧ i ≤ 5 ∧ wr = (w.alloc (.cells #[.int .i64 ks, .int .i64 ke, .int .i64 kr, .bool kn, .int .i64 kf, .int .i64 km, .int .i64 ko, .int .i64 kl] 23)) ∧ Hid ((0 < i → ofB ks = true) ∧ (1 < i → ofB ke = true) ∧ (2 < i → ofB kr = true) ∧ (3 < i → ofB kf = true) ∧ (4 < i → ofB kl = true)))
    (fun vi _ => 5 - (intOf vi).toNat)
  case atStart => exact ⟨0, rfl, by omega, rfl, fun h => by omega, fun h => by omega, fun h => by omega, fun h => by omega, fun h => by omega⟩
  case round =>
    obtain ⟨i, rfl, hi, rfl, HA⟩ := hrel
    rcases (show i = 0 ∨ i = 1 ∨ i = 2 ∨ i = 3 ∨ i = 4 ∨ i = 5 by omega) with rfl | rfl | rfl | rfl | rfl | rfl
    · cases hk : ofB ks with
      | false =>
        have c1 := isKept_is ks false hk
        have HN : Hid (okK ⟨ks, ke, kr, kn, kf, km, ko, kl⟩ = false) := by simp [Hid, okK, hk]
        clear hk
        go_wp2_with fail
        refine (c1 _).mono ?_
        rintro e w' ⟨rfl, rfl⟩
        go_wp2_with fail
        go_ret
        exact ⟨ret_int (by rw [← HR.out, chkE, if_neg (by rw [HN.out]; simp)]), HB.out⟩
      | true =>
        have c1 := isKept_is ks true hk
        have HK : Hid (ofB ks = true) := hk
        clear hk
        go_wp2_with fail
        refine (c1 _).mono ?_
        rintro e w' ⟨rfl, rfl⟩
        go_wp2_with fail
        go_roundw
        case rel => exact ⟨1, by go_num, by omega, by trivial, ⟨fun _ => (by first | exact HK.out | trivial), fun h => by omega, fun h => by omega, fun h => by omega, fun h => by omega⟩⟩
        case measure => simp [intOf]
    · cases hk : ofB ke with
      | false =>
        have c1 := isKept_is ke false hk
        have HN : Hid (okK ⟨ks, ke, kr, kn, kf, km, ko, kl⟩ = false) := by simp [Hid, okK, hk]
        clear hk
        go_wp2_with fail
        refine (c1 _).mono ?_
        rintro e w' ⟨rfl, rfl⟩
        go_wp2_with fail
        go_ret
        exact ⟨ret_int (by rw [← HR.out, chkE, if_neg (by rw [HN.out]; simp)]), HB.out⟩
      | true =>
        have c1 := isKept_is ke true hk
        have HK : Hid (ofB ke = true) := hk
        clear hk
        go_wp2_with fail
        refine (c1 _).mono ?_
        rintro e w' ⟨rfl, rfl⟩
        go_wp2_with fail
        go_roundw
        case rel => exact ⟨2, by go_num, by omega, by trivial, ⟨fun _ => HA.out.1 (by omega), fun _ => (by first | exact HK.out | trivial), fun h => by omega, fun h => by omega, fun h => by omega⟩⟩
        case measure => simp [intOf]
    · cases hk : ofB kr with
      | false =>
        have c1 := isKept_is kr false hk
        have HN : Hid (okK ⟨ks, ke, kr, kn, kf, km, ko, kl⟩ = false) := by simp [Hid, okK, hk]
        clear hk
        go_wp2_with fail
        refine (c1 _).mono ?_
        rintro e w' ⟨rfl, rfl⟩
        go_wp2_with fail
        go_ret
        exact ⟨ret_int (by rw [← HR.out, chkE, if_neg (by rw [HN.out]; simp)]), HB.out⟩
      | true =>
        have c1 := isKept_is kr true hk
        have HK : Hid (ofB kr = true) := hk
        clear hk
        go_wp2_with fail
        refine (c1 _).mono ?_
        rintro e w' ⟨rfl, rfl⟩
        go_wp2_with fail
        go_roundw
        case rel => exact ⟨3, by go_num, by omega, by trivial, ⟨fun _ => HA.out.1 (by omega), fun _ => HA.out.2.1 (by omega), fun _ => (by first | exact HK.out | trivial), fun h => by omega, fun h => by omega⟩⟩
        case measure => simp [intOf]
    · cases hk : ofB kf with
      | false =>
        have c1 := isKept_is kf false hk
        have HN : Hid (okK ⟨ks, ke, kr, kn, kf, km, ko, kl⟩ = false) := by simp [Hid, okK, hk]
        clear hk
        go_wp2_with fail
        refine (c1 _).mono ?_
        rintro e w' ⟨rfl, rfl⟩
        go_wp2_with fail
        go_ret
        exact ⟨ret_int (by rw [← HR.out, chkE, if_neg (by rw [HN.out]; simp)]), HB.out⟩
      | true =>
        have c1 := isKept_is kf true hk
        have HK : Hid (ofB kf = true) := hk
        clear hk
        go_wp2_with fail
        refine (c1 _).mono ?_
        rintro e w' ⟨rfl, rfl⟩
        go_wp2_with fail
        go_roundw
        case rel => exact ⟨4, by go_num, by omega, by trivial, ⟨fun _ => HA.out.1 (by omega), fun _ => HA.out.2.1 (by omega), fun _ => HA.out.2.2.1 (by omega), fun _ => (by first | exact HK.out | trivial), fun h => by omega⟩⟩
        case measure => simp [intOf]
    · cases hk : ofB kl with
      | false =>
        have c1 := isKept_is kl false hk
        have HN : Hid (okK ⟨ks, ke, kr, kn, kf, km, ko, kl⟩ = false) := by simp [Hid, okK, hk]
        clear hk
        go_wp2_with fail
        refine (c1 _).mono ?_
        rintro e w' ⟨rfl, rfl⟩
        go_wp2_with fail
        go_ret
        exact ⟨ret_int (by rw [← HR.out, chkE, if_neg (by rw [HN.out]; simp)]), HB.out⟩
      | true =>
        have c1 := isKept_is kl true hk
        have HK : Hid (ofB kl = true) := hk
        clear hk
        go_wp2_with fail
        refine (c1 _).mono ?_
        rintro e w' ⟨rfl, rfl⟩
        go_wp2_with fail
        go_roundw
        case rel => exact ⟨5, by go_num, by omega, by trivial, ⟨fun _ => HA.out.1 (by omega), fun _ => HA.out.2.1 (by omega), fun _ => HA.out.2.2.1 (by omega), fun _ => HA.out.2.2.2.1 (by omega), fun _ => (by first | exact HK.out | trivial)⟩⟩
        case measure => simp [intOf]
    · have HE : Hid (r = if endB ⟨ks, ke, kr, kn, kf, km, ko, kl⟩ = true then 0 else 230) := by
        obtain ⟨a1, a2, a3, a4, a5⟩ := HA.out
        unfold Hid
        rw [← HR.out, chkE, okK]
        simp only [a1 (by omega), a2 (by omega), a3 (by omega), a4 (by omega), a5 (by omega), Bool.true_and]
      clear HA HR
      go_wp2_with fail
      all_goals go_ret
      all_goals (refine ⟨ret_int ?_, HB.out⟩; have hE := HE.out; simp only [endB, decide_eq_true_eq] at hE; split at hE <;> omega)
theorem chk_yes (ks ke kr : Int) (kn : Bool) (kf km ko kl : Int) (k : okK ⟨ks, ke, kr, kn, kf, km, ko, kl⟩ = true) (w : World) : Calls Try.prog 11 #[.agg #[.int .i64 ks, .int .i64 ke, .int .i64 kr, .bool kn, .int .i64 kf, .int .i64 km, .int .i64 ko, .int .i64 kl]] w fun e w' => e = .returned (.int .i64 0) ∧ Below w.heap.size w w' := chk_is ks ke kr kn kf km ko kl 0 (if_pos k) w
theorem chk_no (ks ke kr : Int) (kn : Bool) (kf km ko kl : Int) (k : okK ⟨ks, ke, kr, kn, kf, km, ko, kl⟩ = false) (w : World) : Calls Try.prog 11 #[.agg #[.int .i64 ks, .int .i64 ke, .int .i64 kr, .bool kn, .int .i64 kf, .int .i64 km, .int .i64 ko, .int .i64 kl]] w fun e w' => e = .returned (.int .i64 230) ∧ Below w.heap.size w w' := chk_is ks ke kr kn kf km ko kl 230 (if_neg (by rw [k]; simp)) w
end Go.Proofs.Ytfkkpianlmpknaa
