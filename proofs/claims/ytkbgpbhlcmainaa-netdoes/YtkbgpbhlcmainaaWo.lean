/- The contract of without. -/
import Derived.Test.YtkbgpbhlcmainaaMake
namespace Go.Proofs.Ytkbgpbhlcmainaa
open Go.ChangeShapes Go.WideShapes Go.ChangeAt Go.RowKit
set_option linter.unusedVariables false

set_option maxRecDepth 100000 in
set_option maxHeartbeats 2000000 in
theorem without_any (A : Option Addr) (n c k : Nat) (l : List Dg) (w : World) (hD : DatsAt w A n c l) (hk : k < n) :
    Calls Try.prog 30 #[.slice A n c, .int .i64 (k : Int)] w fun e w' => ∃ va vc, e = .returned (.slice va (n - 1) vc) ∧ DatsAt w' va (n - 1) vc (l.take k ++ l.drop (k + 1)) ∧ Below w.heap.size w w' := by
  obtain ⟨es, he, hl, hr, hc, hm, h0, hE, hok⟩ := hD
  have hel : es.length = n := by rw [← hl, ← he, List.length_map]
  have HD : Hid (es.map En.dg = l ∧ (∀ y ∈ es, y.ok w) ∧ EntsAt w A es ∧ es.length = n ∧ (A = none → c = 0)) := ⟨he, hok, hE, hel, h0⟩
  have e1 := sl_three A n c k (k : Int) rfl (by omega)
  have e2 := sl_cut A n c (k + 1) ((k : Int) + 1) (by omega) (by omega)
  obtain ⟨A2, hA2⟩ : ∃ A2, cutE A c (k + 1) = A2 := ⟨_, rfl⟩
  obtain ⟨m, hm'⟩ : ∃ m, n - (k + 1) = m := ⟨_, rfl⟩
  obtain ⟨c2, hc2⟩ : ∃ c2, c - (k + 1) = c2 := ⟨_, rfl⟩
  rw [hA2, hm', hc2] at e2
  have HC : Hid (cutE A c (k + 1) = A2 ∧ n - (k + 1) = m ∧ c - (k + 1) = c2) := ⟨hA2, hm', hc2⟩
  have hw : IntKind.i64.wrap ((k : Int) + 1) = (k : Int) + 1 := by rw [IntKind.wrap_i64]; omega
  clear he hok hE hel hl h0 hA2 hm' hc2
  go_enter Try.func30, Try.ntmps30
  go_upto_region 1 with fail
  go_region_held3 (fun W => True) (trivial) (first | (refine step_full rfl (.tmp 8) (.tmp 12) rfl A k (es.take k) A2 m c2 (es.drop (k + 1)) rfl rfl (EntsAt.of_heap (HD.out.2.2.1.take k) (by rfl)) (by rw [List.length_take, HD.out.2.2.2.1]; omega) (EntsAt.of_heap (w := w) (by rw [← HC.out.1]; exact HD.out.2.2.1.cut (k + 1) c (by rw [HD.out.2.2.2.1]; omega) (by rw [HD.out.2.2.2.1]; exact hc)) (by rfl)) (by rw [List.length_drop, HD.out.2.2.2.1]; exact HC.out.2.1) (by rw [← HC.out.1, ← HC.out.2.2]; exact cutE_none HD.out.2.2.2.2) (by have := HC.out.2.1; omega) ?_; intro va vc w1 hE1 hc1 hm1 hn1 hb1))
  all_goals go_wp2_with fail
  all_goals go_ret
  all_goals (
    have hb2 : Below w.heap.size w w1 := Below.on (Below.drew (Below.refl _ w)) hb1
    have hkm : k + m = n - 1 := by have := HC.out.2.1; omega
    rw [hkm] at hc1 ⊢
    refine ⟨va, vc, rfl, ⟨es.take k ++ es.drop (k + 1), by rw [List.map_append, List.map_take, List.map_drop, HD.out.1], by rw [← HD.out.1, ← List.map_take, ← List.map_drop, List.length_append, List.length_map, List.length_map, List.length_take, List.length_drop, HD.out.2.2.2.1]; omega, by omega, hc1, hm1, hn1, hE1, fun y hy => ?_⟩, hb2⟩
    refine (HD.out.2.1 y ?_).below hb2 (Nat.le_refl _)
    rcases List.mem_append.1 hy with hy | hy
    · exact List.mem_of_mem_take hy
    · exact List.mem_of_mem_drop hy)
end Go.Proofs.Ytkbgpbhlcmainaa
