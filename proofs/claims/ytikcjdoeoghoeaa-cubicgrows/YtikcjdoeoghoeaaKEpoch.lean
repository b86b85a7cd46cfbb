/- The contract of beginEpoch. -/
import Derived.Test.YtikcjdoeoghoeaaKEp2
namespace Go.Proofs.Ytikcjdoeoghoeaa
open Go.ChangeShapes Go.WideShapes Go.ChangeAt Go.RowKit
set_option linter.unusedVariables false


set_option maxRecDepth 100000 in
set_option maxHeartbeats 4000000 in
theorem kbeg_b (c : Cc) (g : Nat) (now : Int) (hw : c.wm ≤ c.cw) (hm : 1 ≤ c.ms ∧ c.ms ≤ 65000) (hc : 0 ≤ c.cw ∧ c.cw ≤ 1073741824) (hwm : 0 ≤ c.wm ∧ c.wm ≤ 1073741824)  (w : World) (hb : Box w g 48 (ccL c)) : Calls Try.prog 50 #[.pointer (some ⟨g, 0, none⟩), .int .i64 now] w fun e w' => e = .returned (.tuple #[]) ∧ Chg w g w' ∧ Box w' g 48 (ccL { c with ep := now, st := c.cw, we := c.cw, ck := 0, wm := c.cw }) := by
  have HF : Hid (Chg w g w ∧ Box w g 48 (ccL c)) := ⟨Chg.refl w g, hb⟩
  have k1 := Box.cell hb 1 rfl
  have k2 := Box.cell hb 2 rfl
  have k3 := Box.cell hb 3 rfl
  have k4 := Box.cell hb 4 rfl
  have k5 := Box.cell hb 5 rfl
  have k6 := Box.cell hb 6 rfl
  have k7 := Box.cell hb 7 rfl
  have k8 := Box.cell hb 8 rfl
  have k9 := Box.cell hb 9 rfl
  have fz := fun i => Box.frozen hb i
  have hlt := hb.lt
  clear hb
  go_enter Try.func50, Try.ntmps50
  go_upto_region 0 with fail
  go_region
  go_upto_region 1 with fail
  go_quiet (fail)
  go_wp2_with fail
  go_end0
  refine ⟨rfl, ?hs, ?hx⟩
  case hs => repeat (first | with_reducible exact HF.out.1 | with_reducible refine Chg.set ?_ _ _ | with_reducible refine Chg.drewN ?_ _ | with_reducible refine Chg.drew ?_)
  case hx =>
    apply box_to
    · repeat (first | with_reducible exact HF.out.2 | with_reducible apply Box.set | with_reducible apply Box.drewN | with_reducible apply Box.drew)
    · rfl

set_option maxRecDepth 100000 in
set_option maxHeartbeats 4000000 in
theorem kbeg_a (c : Cc) (g : Nat) (now : Int) (hw : c.cw < c.wm) (hm : 1 ≤ c.ms ∧ c.ms ≤ 65000) (hc : 0 ≤ c.cw ∧ c.cw ≤ 1073741824) (hwm : 0 ≤ c.wm ∧ c.wm ≤ 1073741824) (y z : Int) (c1 : ∀ W, Calls Try.prog 41 #[.int .i64 (c.wm - c.cw), .int .i64 10000000000, .int .i64 (4 * c.ms)] W fun e w' => e = .returned (.int .i64 y) ∧ ∃ n, w' = W.drewN n) (c2 : ∀ W, Calls Try.prog 57 #[.int .i64 y] W fun e w' => e = .returned (.int .i64 z) ∧ w' = W) (w : World) (hb : Box w g 48 (ccL c)) : Calls Try.prog 50 #[.pointer (some ⟨g, 0, none⟩), .int .i64 now] w fun e w' => e = .returned (.tuple #[]) ∧ Chg w g w' ∧ Box w' g 48 (ccL { c with ep := now, st := c.cw, we := c.cw, ck := z }) := by
  have HF : Hid (Chg w g w ∧ Box w g 48 (ccL c)) := ⟨Chg.refl w g, hb⟩
  have k1 := Box.cell hb 1 rfl
  have k2 := Box.cell hb 2 rfl
  have k3 := Box.cell hb 3 rfl
  have k4 := Box.cell hb 4 rfl
  have k5 := Box.cell hb 5 rfl
  have k6 := Box.cell hb 6 rfl
  have k7 := Box.cell hb 7 rfl
  have k8 := Box.cell hb 8 rfl
  have k9 := Box.cell hb 9 rfl
  have fz := fun i => Box.frozen hb i
  have hlt := hb.lt
  clear hb
  go_enter Try.func50, Try.ntmps50
  go_upto_region 0 with fail
  go_region
  go_upto_region 1 with fail
  go_quiet (fail)
  go_upto_region 2 with fail
  refine wp_named ?_
  intro X hX
  have HG : Hid (Chg w g X ∧ Box X g 48 (ccL { c with ep := now, st := c.cw, we := c.cw })) := by
    rw [hX]
    refine ⟨?hs, ?hx⟩
    case hs => repeat (first | with_reducible exact HF.out.1 | with_reducible refine Chg.set ?_ _ _ | with_reducible refine Chg.drewN ?_ _ | with_reducible refine Chg.drew ?_)
    case hx =>
      apply box_to
      · repeat (first | with_reducible exact HF.out.2 | with_reducible apply Box.set | with_reducible apply Box.drewN | with_reducible apply Box.drew)
      · rfl
  clear hX HF fz hlt k1 k2 k3 k4 k5 k6 k7 k8 k9
  have HF := HG
  clear HG
  have fz := fun i => Box.frozen HF.out.2 i
  have hlt := HF.out.2.lt
  refine ep2_reg (by rfl) { c with ep := now, st := c.cw, we := c.cw } g y z rfl HF.out.2 (by rw [IntKind.wrap_i64]; show (c.wm - c.cw + _) % _ - _ = c.wm - c.cw; omega) (by rw [IntKind.wrap_i64]; show (4 * c.ms + _) % _ - _ = 4 * c.ms; omega) c1 c2 ?_
  intro T w9 hS
  simp only [Act.put, List.setIfInBounds_toArray, List.set_cons_zero, List.set_cons_succ]
  have HG : Hid (Chg w g w9 ∧ Box w9 g 48 (ccL { c with ep := now, st := c.cw, we := c.cw, ck := z })) := ⟨HF.out.1.trans hS.1, hS.2⟩
  clear hS HF
  have HF := HG
  clear HG
  go_wp2_with fail
  go_end0
  refine ⟨rfl, ?hs, ?hx⟩
  case hs => repeat (first | with_reducible exact HF.out.1 | with_reducible refine Chg.set ?_ _ _ | with_reducible refine Chg.drewN ?_ _ | with_reducible refine Chg.drew ?_)
  case hx =>
    apply box_to
    · repeat (first | with_reducible exact HF.out.2 | with_reducible apply Box.set | with_reducible apply Box.drewN | with_reducible apply Box.drew)
    · rfl

theorem begK_bd (c : Cc) : 0 ≤ begK c ∧ begK c ≤ 2097151 := ⟨(cbrt_root _).lo, (cbrt_root _).hi⟩
theorem kbeg_is (c : Cc) (g : Nat) (now : Int) (hm : 1 ≤ c.ms ∧ c.ms ≤ 65000) (hc : 0 ≤ c.cw ∧ c.cw ≤ 1073741824) (hwm : 0 ≤ c.wm ∧ c.wm ≤ 1073741824) (w : World) (hb : Box w g 48 (ccL c)) : Calls Try.prog 50 #[.pointer (some ⟨g, 0, none⟩), .int .i64 now] w fun e w' => e = .returned (.tuple #[]) ∧ Chg w g w' ∧ Box w' g 48 (ccL (begE c now)) := by
  unfold begE
  by_cases h : c.cw < c.wm
  · rw [if_pos h]
    have hy := md_bd (a := c.wm - c.cw) (b := 10000000000) (c := 4 * c.ms) (by omega) (by omega) (by omega)
    exact kbeg_a c g now h hm hc hwm _ _ (fun W => share_is _ _ _ _ rfl (by unfold I64; omega) (by unfold I64; omega) (by unfold I64; omega) W) (fun W => cbrt_walk _ (by omega) W) w hb
  · rw [if_neg h]; exact kbeg_b c g now (by omega) hm hc hwm w hb
end Go.Proofs.Ytikcjdoeoghoeaa
