/- The walk of BbrFalls. -/
import Derived.Test.YtagmighcofllhaaDoorFallsA
import Derived.Test.YtagmighcofllhaaDoorRTim
import Derived.Test.YtagmighcofllhaaDoorKStp
import Derived.Test.YtagmighcofllhaaDoorRNw
namespace Go.Proofs.YtagmighcofllhaaDoor
open Go.ChangeShapes Go.WideShapes Go.ChangeAt Go.RowKit
set_option linter.unusedVariables false
set_option linter.unusedSimpArgs false

open Fil
theorem new_same (n f : Int) (w : World) : Calls Tryd.prog 10 #[ccv (new8 n f), ccv (new8 n f)] w fun e w' => e = .returned (.bool true) ∧ Below w.heap.size w w' := by
  unfold new8
  by_cases h : newB n f = true
  · rw [if_pos h]; exact same8_is (st8 n f) none none 0 0 0 [] rfl w (tims_nil w) (tims_nil w)
  · rw [if_neg h]; exact same8_z w
theorem falls_walk (c : Cc) (es : List Tm) (n f : Int) (w : World) (hI : CcI c) (hR : RowIn w c es) (hn : I64 n) (hf : I64 f) (hG : G8 w) : Calls Tryd.prog 4 #[ccv c, .int .i64 n, .int .i64 f] w fun e w' => e = .returned (.bool true) ∧ Below w.heap.size w w' := by
  have n3 := fun W (_ : Below w.heap.size w W) => knw8_is n f W
  have n4 := fun W (_ : Below w.heap.size w W) => rnw8_is n f W
  have n5 := fun W (_ : Below w.heap.size w W) => new_same n f W
  unfold newE at n3 n4
  have n7 : newB n f = true → ∀ W, Below w.heap.size w W → Calls Tryd.prog 11 #[ccv (new8 n f)] W fun e w' => e = .returned (.int .i64 0) ∧ Below W.heap.size W w' := by
    intro h W _
    unfold new8
    rw [if_pos h]
    have k := st8_ok h
    exact chk8_ok (st8 n f) [] (ok8_cci (ok8_out k).1 (Nat.zero_le _)) rfl k W (tims_nil W)
  cases k : (okC c es && szB n) with
  | true =>
    obtain ⟨k1, k2⟩ := Bool.and_eq_true_iff.1 k
    have a1 := fun W (hW : Below w.heap.size w W) => tim_yes c es n hI k1 k2 W (hR.below hW)
    have a2 := fun W (hW : Below w.heap.size w W) => rtim_yes c es n k1 k2 hR.len W (hR.below hW).tims
    have a5 : ∀ (va : Option Addr) (vk : Nat) W, Below w.heap.size w W → Fil.RowT W 0 va c.bn vk es → Calls Tryd.prog 10 #[ccv (rowed (timE c) va c.bn vk), ccv (timE c)] W fun e w' => e = .returned (.bool true) ∧ Below W.heap.size W w' := fun va vk W hW hr =>
      same8_is (timE c) va c.ba vk c.bc c.bn es hR.len W hr.tims (hR.below hW).tims
    by_cases h : newB n f = true
    · rw [if_pos h] at n3 n4; exact falls_yy w c (timE c) _ n f (timE c) es hG a1 a2 n3 n4 a5 n5 (n7 h)
    · rw [if_neg h] at n3 n4; exact falls_yn w c (timE c) _ n f (timE c) es hG a1 a2 n3 n4 a5 n5
  | false =>
    have a1 := fun W (hW : Below w.heap.size w W) => tim_bad c es n hI k W (hR.below hW)
    have a2 := fun W (hW : Below w.heap.size w W) => rtim_bad c es n k hR.len W (hR.below hW).tims
    have a5 := fun W (_ : Below w.heap.size w W) => same8_z W
    by_cases h : newB n f = true
    · rw [if_pos h] at n3 n4; exact falls_ny w c zC _ n f _ hG a1 a2 n3 n4 a5 n5 (n7 h)
    · rw [if_neg h] at n3 n4; exact falls_nn w c zC _ n f _ hG a1 a2 n3 n4 a5 n5
end Go.Proofs.YtagmighcofllhaaDoor
