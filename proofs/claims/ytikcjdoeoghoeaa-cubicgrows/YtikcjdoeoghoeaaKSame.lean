/- The document's Same, of two controllers that differ in an empty row's place alone. -/
import Derived.Test.YtikcjdoeoghoeaaKPlain
import Derived.Handy
namespace Go.Proofs.Ytikcjdoeoghoeaa
open Go.ChangeShapes Go.WideShapes Go.ChangeAt Go.RowKit
set_option linter.unusedVariables false


set_option maxRecDepth 100000 in
set_option maxHeartbeats 4000000 in
theorem ksame_is (c : Cc) (A : Option Addr) (b : Nat) (w : World) : Calls Try.prog 10 #[ccv (bare c), ccv { c with ba := A, bn := 0, bc := b }] w fun e w' => e = .returned (.bool true) ∧ Below w.heap.size w w' := by
  go_enter Try.func10, Try.ntmps10
  go_wp2_with (first | (refine wpC_box rfl rfl rfl ?_))
  intro X1 p HN
  have HX1 : Hid (Below w.heap.size w X1 ∧ Box X1 p 26 (ccL (bare c)) ∧ w.heap.size ≤ p ∧ True) := by
    have hb := Below.refl w.heap.size w
    obtain ⟨hg, hb2, bn⟩ := HN.out
    have hz := hb.size
    exact ⟨Below.on hb hb2, bn, by omega, trivial⟩
  clear HN 
  go_wp2_with (first | (refine wpC_box rfl rfl rfl ?_))
  intro X2 q HN
  have HX2 : Hid (Below w.heap.size w X2 ∧ Box X2 p 26 (ccL (bare c)) ∧ Box X2 q 26 (ccL { c with ba := A, bn := 0, bc := b }) ∧ w.heap.size ≤ p ∧ p < q ∧ True) := by
    obtain ⟨hb, b0, l0, _⟩ := HX1.out
    obtain ⟨hg, hb2, bn⟩ := HN.out
    have z0 := b0.lt
    exact ⟨Below.on hb hb2, b0.later hb2, bn, l0, by omega, trivial⟩
  clear HN HX1
  have k0 : X2.cell? ⟨p, 0, none⟩ = some (.int .i64 c.kd) := by have := Box.cell (HX2.out.2.1) 0 rfl; exact this
  have k1 : X2.cell? ⟨p, 1, none⟩ = some (.int .i64 c.ms) := by have := Box.cell (HX2.out.2.1) 1 rfl; exact this
  have k2 : X2.cell? ⟨p, 2, none⟩ = some (.int .i64 c.cw) := by have := Box.cell (HX2.out.2.1) 2 rfl; exact this
  have k3 : X2.cell? ⟨p, 3, none⟩ = some (.int .i64 c.ss) := by have := Box.cell (HX2.out.2.1) 3 rfl; exact this
  have k4 : X2.cell? ⟨p, 4, none⟩ = some (.int .i64 c.ac) := by have := Box.cell (HX2.out.2.1) 4 rfl; exact this
  have k5 : X2.cell? ⟨p, 5, none⟩ = some (.int .i64 c.wm) := by have := Box.cell (HX2.out.2.1) 5 rfl; exact this
  have k6 : X2.cell? ⟨p, 6, none⟩ = some (.int .i64 c.ep) := by have := Box.cell (HX2.out.2.1) 6 rfl; exact this
  have k7 : X2.cell? ⟨p, 7, none⟩ = some (.int .i64 c.ck) := by have := Box.cell (HX2.out.2.1) 7 rfl; exact this
  have k8 : X2.cell? ⟨p, 8, none⟩ = some (.int .i64 c.we) := by have := Box.cell (HX2.out.2.1) 8 rfl; exact this
  have k9 : X2.cell? ⟨p, 9, none⟩ = some (.int .i64 c.st) := by have := Box.cell (HX2.out.2.1) 9 rfl; exact this
  have k10 : X2.cell? ⟨p, 10, none⟩ = some (.int .i64 c.md) := by have := Box.cell (HX2.out.2.1) 10 rfl; exact this
  have k12 : X2.cell? ⟨p, 12, none⟩ = some (.int .i64 c.mr) := by have := Box.cell (HX2.out.2.1) 12 rfl; exact this
  have k13 : X2.cell? ⟨p, 13, none⟩ = some (.int .i64 c.ma) := by have := Box.cell (HX2.out.2.1) 13 rfl; exact this
  have k14 : X2.cell? ⟨p, 14, none⟩ = some (.int .i64 c.rd) := by have := Box.cell (HX2.out.2.1) 14 rfl; exact this
  have k15 : X2.cell? ⟨p, 15, none⟩ = some (.int .i64 c.na) := by have := Box.cell (HX2.out.2.1) 15 rfl; exact this
  have k16 : X2.cell? ⟨p, 16, none⟩ = some (.int .i64 c.fu) := by have := Box.cell (HX2.out.2.1) 16 rfl; exact this
  have k17 : X2.cell? ⟨p, 17, none⟩ = some (.int .i64 c.fc) := by have := Box.cell (HX2.out.2.1) 17 rfl; exact this
  have k18 : X2.cell? ⟨p, 18, none⟩ = some (.int .i64 c.ph) := by have := Box.cell (HX2.out.2.1) 18 rfl; exact this
  have k19 : X2.cell? ⟨p, 19, none⟩ = some (.int .i64 c.pa) := by have := Box.cell (HX2.out.2.1) 19 rfl; exact this
  have k20 : X2.cell? ⟨p, 20, none⟩ = some (.int .i64 c.da) := by have := Box.cell (HX2.out.2.1) 20 rfl; exact this
  have k21 : X2.cell? ⟨p, 21, none⟩ = some (.int .i64 c.pr) := by have := Box.cell (HX2.out.2.1) 21 rfl; exact this
  have k11 : X2.cell? ⟨p, 11, none⟩ = some (.slice none 0 0) := by have := Box.cell (HX2.out.2.1) 11 rfl; exact this
  have j0 : X2.cell? ⟨q, 0, none⟩ = some (.int .i64 c.kd) := by have := Box.cell (HX2.out.2.2.1) 0 rfl; exact this
  have j1 : X2.cell? ⟨q, 1, none⟩ = some (.int .i64 c.ms) := by have := Box.cell (HX2.out.2.2.1) 1 rfl; exact this
  have j2 : X2.cell? ⟨q, 2, none⟩ = some (.int .i64 c.cw) := by have := Box.cell (HX2.out.2.2.1) 2 rfl; exact this
  have j3 : X2.cell? ⟨q, 3, none⟩ = some (.int .i64 c.ss) := by have := Box.cell (HX2.out.2.2.1) 3 rfl; exact this
  have j4 : X2.cell? ⟨q, 4, none⟩ = some (.int .i64 c.ac) := by have := Box.cell (HX2.out.2.2.1) 4 rfl; exact this
  have j5 : X2.cell? ⟨q, 5, none⟩ = some (.int .i64 c.wm) := by have := Box.cell (HX2.out.2.2.1) 5 rfl; exact this
  have j6 : X2.cell? ⟨q, 6, none⟩ = some (.int .i64 c.ep) := by have := Box.cell (HX2.out.2.2.1) 6 rfl; exact this
  have j7 : X2.cell? ⟨q, 7, none⟩ = some (.int .i64 c.ck) := by have := Box.cell (HX2.out.2.2.1) 7 rfl; exact this
  have j8 : X2.cell? ⟨q, 8, none⟩ = some (.int .i64 c.we) := by have := Box.cell (HX2.out.2.2.1) 8 rfl; exact this
  have j9 : X2.cell? ⟨q, 9, none⟩ = some (.int .i64 c.st) := by have := Box.cell (HX2.out.2.2.1) 9 rfl; exact this
  have j10 : X2.cell? ⟨q, 10, none⟩ = some (.int .i64 c.md) := by have := Box.cell (HX2.out.2.2.1) 10 rfl; exact this
  have j12 : X2.cell? ⟨q, 12, none⟩ = some (.int .i64 c.mr) := by have := Box.cell (HX2.out.2.2.1) 12 rfl; exact this
  have j13 : X2.cell? ⟨q, 13, none⟩ = some (.int .i64 c.ma) := by have := Box.cell (HX2.out.2.2.1) 13 rfl; exact this
  have j14 : X2.cell? ⟨q, 14, none⟩ = some (.int .i64 c.rd) := by have := Box.cell (HX2.out.2.2.1) 14 rfl; exact this
  have j15 : X2.cell? ⟨q, 15, none⟩ = some (.int .i64 c.na) := by have := Box.cell (HX2.out.2.2.1) 15 rfl; exact this
  have j16 : X2.cell? ⟨q, 16, none⟩ = some (.int .i64 c.fu) := by have := Box.cell (HX2.out.2.2.1) 16 rfl; exact this
  have j17 : X2.cell? ⟨q, 17, none⟩ = some (.int .i64 c.fc) := by have := Box.cell (HX2.out.2.2.1) 17 rfl; exact this
  have j18 : X2.cell? ⟨q, 18, none⟩ = some (.int .i64 c.ph) := by have := Box.cell (HX2.out.2.2.1) 18 rfl; exact this
  have j19 : X2.cell? ⟨q, 19, none⟩ = some (.int .i64 c.pa) := by have := Box.cell (HX2.out.2.2.1) 19 rfl; exact this
  have j20 : X2.cell? ⟨q, 20, none⟩ = some (.int .i64 c.da) := by have := Box.cell (HX2.out.2.2.1) 20 rfl; exact this
  have j21 : X2.cell? ⟨q, 21, none⟩ = some (.int .i64 c.pr) := by have := Box.cell (HX2.out.2.2.1) 21 rfl; exact this
  have j11 : X2.cell? ⟨q, 11, none⟩ = some (.slice A 0 b) := by have := Box.cell (HX2.out.2.2.1) 11 rfl; exact this
  go_upto_region 1 with fail
  (try simp only [List.append_eq, List.cons_append, List.nil_append])
  go_upto_region 3 with fail
  (try simp only [List.append_eq, List.cons_append, List.nil_append])
  go_wp2_with fail
  go_rounds 1
  go_ret
  exact ⟨rfl, HX2.out.1⟩
end Go.Proofs.Ytikcjdoeoghoeaa
