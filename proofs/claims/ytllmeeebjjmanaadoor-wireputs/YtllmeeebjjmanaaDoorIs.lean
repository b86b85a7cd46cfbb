/- errors.Is of what went up, and the number that it comes to. -/
import Derived.Test.YtllmeeebjjmanaaDoorErr
namespace Go.Proofs.YtllmeeebjjmanaaDoor
open Go.ChangeShapes Go.WideShapes Go.ChangeAt Go.RowKit Go.Extern.Stop Go.Stop Go.Extern
set_option linter.unusedVariables false

def WhyOk (why : Int) : Prop := (0 ≤ why ∧ why ≤ 7) ∨ why = 8 ∨ why = 10 ∨ why = 11

set_option maxRecDepth 100000 in
set_option maxHeartbeats 1000000 in
theorem is1_hit (why : Int) (w : World) (a0 a1 a2 a : Addr) (hE : Errs w a0 a1 a2) (hw : WhyOk why) (ha : errOf why a0 a1 a2 = a) :
    Calls Tryd.prog 52 #[.iface 92 (.agg #[.int .i64 why]), .iface 107 (.pointer (some a)), .bool true] w fun e w' => e = .returned (.bool true) ∧ w' = w.alloc (.cells #[.int .i64 why] 92) := by
  obtain ⟨i, hi, hcmp⟩ := Option.map_eq_some_iff.1 Tryd.isComp
  obtain ⟨j, hj, hjs⟩ := Option.map_eq_some_iff.1 Tryd.isSize
  have nE := Tryd.noIsE
  have uE := Tryd.noUnwrapE
  have vE := Tryd.noUnwrapsE
  have nW := Tryd.noIsR
  have uW := Tryd.hasUnwrapR
  have mU := Tryd.methodUnwrap
  have heq := run_eql_iface_ptr_same (P := Tryd.prog) (w.alloc (.cells #[.int .i64 why] 92)) a Tryd.underlying58 Tryd.underlying107 hi hcmp hj
  have hty := run_eql_iface_types (P := Tryd.prog) 92 107 (.agg #[.int .i64 why]) (.pointer (some a)) Tryd.underlying58 (by decide) w
  have hc := unwrap_any why w a0 a1 a2 hE hw
  rw [ha] at hc
  have HC : Hid (Calls Tryd.prog 73 #[.agg #[.int .i64 why]] w fun e w' => e = .returned (.iface 107 (.pointer (some a))) ∧ w' = w.alloc (.cells #[.int .i64 why] 92)) := hc
  clear hc hE hw ha hi hcmp hj hjs
  go_enter Tryd.func52, Tryd.ntmps52
  go_wp2
  refine wp_loop_rounds 2 ?_
  rw [rounds_succ]
  go_wp2_with fail
  refine HC.out.mono ?_
  rintro e w' ⟨rfl, rfl⟩
  go_wp2_with fail
  rw [rounds_succ]
  go_wp2_with fail
  go_ret
  exact ⟨rfl, rfl⟩

set_option maxRecDepth 100000 in
set_option maxHeartbeats 1000000 in
theorem is1_miss (why : Int) (w : World) (a0 a1 a2 b a : Addr) (hE : Errs w a0 a1 a2) (hw : WhyOk why) (hb : errOf why a0 a1 a2 = b) (hne : b ≠ a) (hbb : ∃ c t, w.heap[b.block]? = some (.cells c t (0, 0))) (haa : ∃ c t, w.heap[a.block]? = some (.cells c t (0, 0))) :
    Calls Tryd.prog 52 #[.iface 92 (.agg #[.int .i64 why]), .iface 107 (.pointer (some a)), .bool true] w fun e w' => e = .returned (.bool false) ∧ w' = w.alloc (.cells #[.int .i64 why] 92) := by
  obtain ⟨i, hi, hcmp⟩ := Option.map_eq_some_iff.1 Tryd.isComp
  obtain ⟨j, hj, hjs⟩ := Option.map_eq_some_iff.1 Tryd.isSize
  have nE := Tryd.noIsE
  have uE := Tryd.noUnwrapE
  have vE := Tryd.noUnwrapsE
  have nW := Tryd.noIsR
  have uW := Tryd.hasUnwrapR
  have mU := Tryd.methodUnwrap
  obtain ⟨cb, tb, hbb⟩ := block_below ((Below.refl _ w).alloc (Nat.le_refl _) (.cells #[.int .i64 why] 92)) (Nat.le_refl _) hbb
  obtain ⟨ca, ta, haa⟩ := block_below ((Below.refl _ w).alloc (Nat.le_refl _) (.cells #[.int .i64 why] 92)) (Nat.le_refl _) haa
  have heq := run_eql_iface_ptr_other (P := Tryd.prog) (w.alloc (.cells #[.int .i64 why] 92)) Tryd.underlying58 Tryd.underlying107 hi hcmp hj (by rw [hjs]; decide) hne hbb haa
  have hty := run_eql_iface_types (P := Tryd.prog) 92 107 (.agg #[.int .i64 why]) (.pointer (some a)) Tryd.underlying58 (by decide) w
  have hc := unwrap_any why w a0 a1 a2 hE hw
  rw [hb] at hc
  have HC : Hid (Calls Tryd.prog 73 #[.agg #[.int .i64 why]] w fun e w' => e = .returned (.iface 107 (.pointer (some b))) ∧ w' = w.alloc (.cells #[.int .i64 why] 92)) := hc
  clear hc hE hw hb hi hcmp hj hjs hne hbb haa
  go_enter Tryd.func52, Tryd.ntmps52
  go_wp2
  refine wp_loop_rounds 2 ?_
  rw [rounds_succ]
  go_wp2_with fail
  refine HC.out.mono ?_
  rintro e w' ⟨rfl, rfl⟩
  go_wp2_with fail
  rw [rounds_succ]
  go_wp2_with fail
  go_ret
  exact ⟨rfl, rfl⟩


set_option maxRecDepth 100000 in
theorem is_any (why : Int) (w : World) (a0 a1 a2 a : Addr) (hE : Errs w a0 a1 a2) (hw : WhyOk why) (haa : ∃ c t, w.heap[a.block]? = some (.cells c t (0, 0))) (r : Bool) (hr : (r = true ∧ errOf why a0 a1 a2 = a) ∨ (r = false ∧ errOf why a0 a1 a2 ≠ a)) :
    Calls Tryd.prog 41 #[.iface 92 (.agg #[.int .i64 why]), .iface 107 (.pointer (some a))] w fun e w' => e = .returned (.bool r) ∧ w' = w.alloc (.cells #[.int .i64 why] 92) := by
  have tT := Tryd.isTypeOf
  have cT := Tryd.isComparable
  have mR := Tryd.isMethodComparable
  have hc : Calls Tryd.prog 52 #[.iface 92 (.agg #[.int .i64 why]), .iface 107 (.pointer (some a)), .bool true] w fun e w' => e = .returned (.bool r) ∧ w' = w.alloc (.cells #[.int .i64 why] 92) := by
    rcases hr with ⟨rfl, hr⟩ | ⟨rfl, hr⟩
    · exact is1_hit why w a0 a1 a2 a hE hw hr
    · refine is1_miss why w a0 a1 a2 _ a hE hw rfl hr ?_ haa
      unfold errOf
      split
      · exact hE.b0
      · split
        · exact hE.b2
        · exact hE.b1
  have HC : Hid (Calls Tryd.prog 52 #[.iface 92 (.agg #[.int .i64 why]), .iface 107 (.pointer (some a)), .bool true] w fun e w' => e = .returned (.bool r) ∧ w' = w.alloc (.cells #[.int .i64 why] 92)) := hc
  clear hc hE hw hr haa
  go_enter Tryd.func41, Tryd.ntmps41
  go_wp2_with fail
  refine HC.out.mono ?_
  rintro e w' ⟨rfl, rfl⟩
  go_wp2_with fail
  go_ret
  exact ⟨rfl, rfl⟩

/-- The number that a reason comes to. -/
def numI (why : Int) : Int := if why ≤ 7 then 2 else if why = 11 then 32 else 30

theorem number_nil (w : World) : Calls Tryd.prog 28 #[.nilIface] w fun e w' => e = .returned (.int .i64 0) ∧ w' = w := by
  go_enter Tryd.func28, Tryd.ntmps28
  go_wp2
  go_ret
  exact ⟨rfl, rfl⟩

set_option maxHeartbeats 1000000 in
set_option maxRecDepth 100000 in
theorem number_any (why : Int) (w : World) (a0 a1 a2 : Addr) (hE : Errs w a0 a1 a2) (hw : WhyOk why) :
    Calls Tryd.prog 28 #[.iface 92 (.agg #[.int .i64 why])] w fun e w' => e = .returned (.int .i64 (numI why)) ∧ Below w.heap.size w w' := by
  have k1 : Below w.heap.size w (w.alloc (.cells #[.int .i64 why] 92)) := (Below.refl _ w).alloc (Nat.le_refl _) _
  have k2 : Below w.heap.size w ((w.alloc (.cells #[.int .i64 why] 92)).alloc (.cells #[.int .i64 why] 92)) := k1.alloc (by simp) _
  have k3 : Below w.heap.size w (((w.alloc (.cells #[.int .i64 why] 92)).alloc (.cells #[.int .i64 why] 92)).alloc (.cells #[.int .i64 why] 92)) := k2.alloc (by simp; omega) _
  have E1 := hE.alloc (.cells #[.int .i64 why] 92)
  have E2 := E1.alloc (.cells #[.int .i64 why] 92)
  by_cases h0 : why ≤ 7
  · have hn : numI why = 2 := by simp [numI, h0]
    have c0 := is_any why w a0 a1 a2 a0 hE hw hE.b0 true (.inl ⟨rfl, by simp [errOf, h0]⟩)
    have C0 : Hid (Calls Tryd.prog 41 #[.iface 92 (.agg #[.int .i64 why]), .iface 107 (.pointer (some a0))] w fun e w' => e = .returned (.bool true) ∧ w' = w.alloc (.cells #[.int .i64 why] 92)) := c0
    have g0 := hE.g0
    rw [hn]
    clear hn c0 hE hw h0 E1 E2
    go_enter Tryd.func28, Tryd.ntmps28
    go_wp2_with fail
    refine C0.out.mono ?_
    rintro e w' ⟨rfl, rfl⟩
    go_wp2_with fail
    go_ret
    exact ⟨rfl, k1⟩
  · by_cases h1 : why = 11
    · have hn : numI why = 32 := by simp [numI, h1]
      have c0 := is_any why w a0 a1 a2 a0 hE hw hE.b0 false (.inr ⟨rfl, by simp [errOf, h1]; exact fun e => hE.n02 e.symm⟩)
      have c1 := is_any why _ a0 a1 a2 a1 E1 hw E1.b1 false (.inr ⟨rfl, by simp [errOf, h1]; exact fun e => hE.n12 e.symm⟩)
      have c2 := is_any why _ a0 a1 a2 a2 E2 hw E2.b2 true (.inl ⟨rfl, by simp [errOf, h1]⟩)
      have C : Hid ((Calls Tryd.prog 41 #[.iface 92 (.agg #[.int .i64 why]), .iface 107 (.pointer (some a0))] w fun e w' => e = .returned (.bool false) ∧ w' = w.alloc (.cells #[.int .i64 why] 92)) ∧
        (Calls Tryd.prog 41 #[.iface 92 (.agg #[.int .i64 why]), .iface 107 (.pointer (some a1))] (w.alloc (.cells #[.int .i64 why] 92)) fun e w' => e = .returned (.bool false) ∧ w' = (w.alloc (.cells #[.int .i64 why] 92)).alloc (.cells #[.int .i64 why] 92)) ∧
        (Calls Tryd.prog 41 #[.iface 92 (.agg #[.int .i64 why]), .iface 107 (.pointer (some a2))] ((w.alloc (.cells #[.int .i64 why] 92)).alloc (.cells #[.int .i64 why] 92)) fun e w' => e = .returned (.bool true) ∧ w' = ((w.alloc (.cells #[.int .i64 why] 92)).alloc (.cells #[.int .i64 why] 92)).alloc (.cells #[.int .i64 why] 92))) := ⟨c0, c1, c2⟩
      have g0 := hE.g0
      have g1 := E1.g1
      have g2 := E2.g2
      rw [hn]
      clear hn c0 c1 c2 hE hw h0 h1 E1 E2
      go_enter Tryd.func28, Tryd.ntmps28
      go_wp2_with fail
      refine C.out.1.mono ?_
      rintro e w' ⟨rfl, rfl⟩
      go_wp2_with fail
      refine C.out.2.1.mono ?_
      rintro e w' ⟨rfl, rfl⟩
      go_wp2_with fail
      refine C.out.2.2.mono ?_
      rintro e w' ⟨rfl, rfl⟩
      go_wp2_with fail
      go_ret
      exact ⟨rfl, k3⟩
    · have hn : numI why = 30 := by simp [numI, h1, h0]
      have c0 := is_any why w a0 a1 a2 a0 hE hw hE.b0 false (.inr ⟨rfl, by simp [errOf, h1, h0]; exact fun e => hE.n01 e.symm⟩)
      have c1 := is_any why _ a0 a1 a2 a1 E1 hw E1.b1 true (.inl ⟨rfl, by simp [errOf, h1, h0]⟩)
      have C : Hid ((Calls Tryd.prog 41 #[.iface 92 (.agg #[.int .i64 why]), .iface 107 (.pointer (some a0))] w fun e w' => e = .returned (.bool false) ∧ w' = w.alloc (.cells #[.int .i64 why] 92)) ∧
        (Calls Tryd.prog 41 #[.iface 92 (.agg #[.int .i64 why]), .iface 107 (.pointer (some a1))] (w.alloc (.cells #[.int .i64 why] 92)) fun e w' => e = .returned (.bool true) ∧ w' = (w.alloc (.cells #[.int .i64 why] 92)).alloc (.cells #[.int .i64 why] 92))) := ⟨c0, c1⟩
      have g0 := hE.g0
      have g1 := E1.g1
      rw [hn]
      clear hn c0 c1 hE hw h0 h1 E1 E2
      go_enter Tryd.func28, Tryd.ntmps28
      go_wp2_with fail
      refine C.out.1.mono ?_
      rintro e w' ⟨rfl, rfl⟩
      go_wp2_with fail
      refine C.out.2.mono ?_
      rintro e w' ⟨rfl, rfl⟩
      go_wp2_with fail
      go_ret
      exact ⟨rfl, k2⟩
end Go.Proofs.YtllmeeebjjmanaaDoor
