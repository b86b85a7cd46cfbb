/- The contract of Check. -/
import Derived.Test.YtokiklaffbdomaaFits
import Derived.Laws.StructEq
import Derived.Deep.QuietTactic
import Derived.BigQuiet
import Derived.Deep.RegionWith
import Derived.Deep.RegionHeld3
import Derived.Deep.DeepCutAuto
namespace Go.Proofs.Ytokiklaffbdomaa
open Go.ChangeShapes Go.WideShapes Go.ChangeAt Go.RowKit Go.Shelf
set_option linter.unusedVariables false
attribute [local go_sem] Oper.semAt_some

theorem okB_no_at {ts : List Rc} {i : Nat} (hi : i < ts.length) (h : okAt ts i = false) : okB ts = false := by
  cases hb : okB ts with
  | false => rfl
  | true => rw [(okB_iff.1 hb).2 i hi] at h; cases h
theorem okB_long {ts : List Rc} (h : 65536 < ts.length) : okB ts = false := by
  cases hb : okB ts with
  | false => rfl
  | true => have := (okB_iff.1 hb).1; omega
theorem okAt_R {ts : List Rc} {i : Nat} (h : okR (nth ts i) = false) : okAt ts i = false := by unfold okAt; rw [h]; rfl
theorem fits_b (x : Rc) (w : World) (r : Bool) (h : okR x = r) : Calls Try.prog 36 #[.agg #[.int .i64 x.f, .int .i64 x.t, .bool x.fin, .int .i64 x.sent, .int .i64 x.tx, .bool x.sk, .bool x.lo, .bool x.ag, .int .i64 x.gv, .int .i64 x.ga, .int .i64 x.fa, .bool x.idl]] w fun e w' => e = .returned (.bool r) ∧ Below w.heap.size w w' :=
  (fits_is x w r h).mono fun e w' ⟨he, hw⟩ => ⟨he, by rw [hw]; exact below_new _ _⟩
set_option maxRecDepth 100000 in
set_option maxHeartbeats 4000000 in
theorem check_any (A : Option Addr) (cap : Nat) (ts : List Rc) (w : World) (hT : RecsAt w A ts) :
    Calls Try.prog 12 #[.slice A ts.length cap] w fun e W' => e = .returned (.int .i64 (chkI ts)) ∧ Below w.heap.size w W' := by
  have hml : ts.length ≤ 9223372036854775807 := hT.1
  have HT : Hid (RecsAt w A ts) := hT
  clear hT
  by_cases hlen : 65536 < ts.length
  · rw [chk_no (okB_long hlen)]
    go_enter Try.func12, Try.ntmps12
    go_wp2_with fail
    go_ret
    exact ⟨rfl, Below.refl _ _⟩
  go_enter Try.func12, Try.ntmps12
  go_wp2_with fail
  go_loopw [10] (fun vi wr => ∃ (i : Nat), i ≤ ts.length ∧ vi = .int .i64 i ∧ Hid (∀ j, j < i → okAt ts j = true) ∧ Hid (Below w.heap.size w wr))
    (fun vi _ => ts.length - (intOf vi).toNat)
  case atStart => exact ⟨0, Nat.zero_le _, rfl, fun j hj => by omega, Below.refl _ _⟩
  case round =>
    obtain ⟨i, hi, rfl, HJ, HB⟩ := hrel
    by_cases hlt : i < ts.length
    · obtain ⟨b, o, rfl, hc0⟩ := HT.out.2 i hlt
      have hc := hc0.below HB.out hc0.lt
      have HX : Hid (Box (wr.alloc (.cells (rv (nth ts i)).toArray 28)) wr.heap.size 28 (rv (nth ts i))) := Box.new wr 28 _
      cases hr : okR (nth ts i) with
      | false =>
        have HN : Hid (chkI ts = 100) := chk_no (okB_no_at hlt (okAt_R hr))
        obtain ⟨x, hx⟩ : ∃ x, nth ts i = x := ⟨_, rfl⟩
        rw [hx] at hr hc HX
        have c1 := fun w => fits_b x w false hr
        obtain ⟨k0, k1, k2, k3, k4, k5, k6, k7, k8, k9, k10, k11⟩ := hc.out
        clear hc hx hr hc0 HJ
        go_wp2_with fail
        refine (c1 _).mono ?_
        rintro e W1 ⟨rfl, hB1⟩
        have HB2 : Hid (Below w.heap.size w W1) := Below.on (below_more HB.out _) hB1
        clear HX hB1
        go_wp2_with fail
        go_ret
        exact ⟨ret_int HN.out.symm, HB2.out⟩
      | true =>
        have HR : Hid (okR (nth ts i) = true) := hr
        cases i with
        | zero =>
          have HJ1 : Hid (∀ j, j < 0 + 1 → okAt ts j = true) := fun j hj => by
            obtain rfl : j = 0 := by omega
            exact okAt_iff.2 ⟨HR.out, .inl rfl⟩
          obtain ⟨x, hx⟩ : ∃ x, nth ts 0 = x := ⟨_, rfl⟩
          rw [hx] at hr hc HX
          have c1 := fun w => fits_b x w true hr
          obtain ⟨k0, k1, k2, k3, k4, k5, k6, k7, k8, k9, k10, k11⟩ := hc.out
          simp only [Nat.zero_mul, Nat.add_zero] at *
          clear hc hx hr hc0 HJ
          go_wp2_with fail
          refine (c1 _).mono ?_
          rintro e W1 ⟨rfl, hB1⟩
          have HB2 : Hid (Below w.heap.size w W1) := Below.on (below_more HB.out _) hB1
          have x0 := (HX.out.later hB1).rc.1
          clear HX hB1 k0 k1 k2 k3 k4 k5 k6 k7 k8 k9 k10 k11
          go_upto_region 8 with fail
          go_quiet (fail)
          go_wp2_with fail
          go_roundw
          case rel => exact ⟨0 + 1, by omega, by go_num, HJ1.out, below_drewN HB2.out _⟩
          case measure => simp [intOf]; omega
        | succ m =>
          obtain ⟨_, _, e9, hp0⟩ := HT.out.2 m (by omega)
          cases e9
          have hp := hp0.below HB.out hp0.lt
          have hAt : Hid (okAt ts (m + 1) = (decide ((nth ts (m + 1)).f = (nth ts m).t) && !(nth ts m).fin)) := by
            unfold Hid okAt; rw [HR.out]; simp
          obtain ⟨x, hx⟩ : ∃ x, nth ts (m + 1) = x := ⟨_, rfl⟩
          obtain ⟨y, hy⟩ : ∃ y, nth ts m = y := ⟨_, rfl⟩
          rw [hx] at hr hc HX hAt
          rw [hy] at hp hAt
          have c1 := fun w => fits_b x w true hr
          obtain ⟨k0, k1, k2, k3, k4, k5, k6, k7, k8, k9, k10, k11⟩ := hc.out
          obtain ⟨_, q1, q2, _⟩ := hp.out
          clear hc hx hr hc0 hp hp0 hy
          by_cases hq : x.f = y.t
          · cases hf : y.fin with
            | false =>
              have HJ1 : Hid (∀ j, j < m + 1 + 1 → okAt ts j = true) := fun j hj => by
                rcases Nat.lt_or_ge j (m + 1) with h | h
                · exact HJ.out j h
                · obtain rfl : j = m + 1 := by omega
                  rw [hAt.out, hf, decide_eq_true hq]; rfl
              rw [hf] at q2
              rw [← hq] at q1
              clear hq hf HJ hAt
              go_wp2_with fail
              refine (c1 _).mono ?_
              rintro e W1 ⟨rfl, hB1⟩
              have HB2 : Hid (Below w.heap.size w W1) := Below.on (below_more HB.out _) hB1
              have x0 := (HX.out.later hB1).rc.1
              have q1' := ((Below.on (below_new wr _) hB1).cell (p := ⟨b, o + m * 12 + 1, none⟩) (lt_of_cell q1)).trans q1
              have q2' := ((Below.on (below_new wr _) hB1).cell (p := ⟨b, o + m * 12 + 2, none⟩) (lt_of_cell q2)).trans q2
              clear HX hB1 k0 k1 k2 k3 k4 k5 k6 k7 k8 k9 k10 k11 q1 q2
              go_upto_region 8 with fail
              go_quiet (fail)
              go_wp2_with fail
              go_roundw
              case rel => exact ⟨m + 1 + 1, by omega, by go_num, HJ1.out, below_drewN HB2.out _⟩
              case measure => simp [intOf]; omega
            | true =>
              have HN : Hid (chkI ts = 100) := chk_no (okB_no_at hlt (by rw [hAt.out, hf]; simp))
              rw [hf] at q2
              rw [← hq] at q1
              clear hq hf HJ hAt
              go_wp2_with fail
              refine (c1 _).mono ?_
              rintro e W1 ⟨rfl, hB1⟩
              have HB2 : Hid (Below w.heap.size w W1) := Below.on (below_more HB.out _) hB1
              have x0 := (HX.out.later hB1).rc.1
              have q1' := ((Below.on (below_new wr _) hB1).cell (p := ⟨b, o + m * 12 + 1, none⟩) (lt_of_cell q1)).trans q1
              have q2' := ((Below.on (below_new wr _) hB1).cell (p := ⟨b, o + m * 12 + 2, none⟩) (lt_of_cell q2)).trans q2
              clear HX hB1 k0 k1 k2 k3 k4 k5 k6 k7 k8 k9 k10 k11 q1 q2
              go_upto_region 8 with fail
              go_quiet (fail)
              go_wp2_with fail
              go_ret
              exact ⟨ret_int HN.out.symm, below_drewN HB2.out _⟩
          · have HN : Hid (chkI ts = 100) := chk_no (okB_no_at hlt (by rw [hAt.out, decide_eq_false hq]; rfl))
            have hd : (x.f != y.t) = true := by simp [hq]
            have hwm : IntKind.i64.wrap (m : Int) = m := by simp [IntKind.wrap, IntKind.bits, IntKind.signed]; omega
            have hm1 : m < ts.length := by omega
            have hm2 : (m : Int) < ts.length := by omega
            have hm3 : (m : Int).toNat = m := by omega
            clear HJ hAt hq
            go_wp2_with fail
            refine (c1 _).mono ?_
            rintro e W1 ⟨rfl, hB1⟩
            have HB2 : Hid (Below w.heap.size w W1) := Below.on (below_more HB.out _) hB1
            have x0 := (HX.out.later hB1).rc.1
            have q1' := ((Below.on (below_new wr _) hB1).cell (p := ⟨b, o + m * 12 + 1, none⟩) (lt_of_cell q1)).trans q1
            have q2' := ((Below.on (below_new wr _) hB1).cell (p := ⟨b, o + m * 12 + 2, none⟩) (lt_of_cell q2)).trans q2
            clear HX hB1 k0 k1 k2 k3 k4 k5 k6 k7 k8 k9 k10 k11 q1 q2
            go_upto_region 8 with fail
            go_quiet (fail)
            go_wp2_with fail
            go_ret
            exact ⟨ret_int HN.out.symm, below_drewN HB2.out _⟩
    · obtain rfl : i = ts.length := by omega
      have HY : Hid (chkI ts = 0) := chk_yes (okB_iff.2 ⟨by omega, HJ.out⟩)
      go_wp2_with fail
      go_ret
      exact ⟨ret_int HY.out.symm, HB.out⟩
theorem check_ok (A : Option Addr) (cap : Nat) (ts : List Rc) (w : World) (hT : RecsAt w A ts) (h : okB ts = true) :
    Calls Try.prog 12 #[.slice A ts.length cap] w fun e W' => e = .returned (.int .i64 0) ∧ Below w.heap.size w W' := by
  have := check_any A cap ts w hT; rwa [chk_yes h] at this
theorem check_no (A : Option Addr) (cap : Nat) (ts : List Rc) (w : World) (hT : RecsAt w A ts) (h : okB ts = false) :
    Calls Try.prog 12 #[.slice A ts.length cap] w fun e W' => e = .returned (.int .i64 100) ∧ Below w.heap.size w W' := by
  have := check_any A cap ts w hT; rwa [chk_no h] at this
end Go.Proofs.Ytokiklaffbdomaa
