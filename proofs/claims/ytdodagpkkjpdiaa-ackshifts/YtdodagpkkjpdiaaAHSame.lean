/- The document's Same of two that are alike. -/
import Derived.Test.YtdodagpkkjpdiaaABase
import Derived.Test.YtdodagpkkjpdiaaSSame
namespace Go.Proofs.Ytdodagpkkjpdiaa
open Go.ChangeShapes Go.WideShapes Go.ChangeAt Go.RowKit Go.Shelf
set_option linter.unusedVariables false
set_option linter.unusedSimpArgs false
attribute [local go_sem] Oper.semAt_some


def Hc.at (x : Hc) (a : Option Addr) (c : Nat) : Hc := { x with sa := a, sc := c }
set_option maxRecDepth 100000 in
set_option maxHeartbeats 4000000 in
theorem hsame_w (x : Hc) (sb : Option Addr) (sd : Nat) (w : World) (HS : Hid (∀ W, Below w.heap.size w W → Calls Try.prog 25 #[.slice x.sa x.sn x.sc, .slice sb x.sn sd] W fun e w' => e = .returned (.bool true) ∧ ∃ n, w' = W.drewN n)) :
    Calls Try.prog 9 #[agv (hcL x), agv (hcL (x.at sb sd))] w fun e w' => e = .returned (.bool true) ∧ Below w.heap.size w w' := by
  go_enter Try.func9, Try.ntmps9
  go_wp2_with (first | (refine wpS_box rfl rfl rfl ?_))
  intro X1 g HN
  have HX1 : Hid (Below w.heap.size w X1 ∧ Box X1 g 31 (hcL x) ∧ w.heap.size ≤ g ∧ True) := by
    have hb := Below.refl w.heap.size w
    obtain ⟨hg, hb2, bn⟩ := HN.out
    have hz := hb.size
    exact ⟨Below.on hb hb2, bn, by omega, trivial⟩
  clear HN 
  go_wp2_with (first | (refine wpS_box rfl rfl rfl ?_))
  intro X2 b HN
  have HX2 : Hid (Below w.heap.size w X2 ∧ Box X2 g 31 (hcL x) ∧ Box X2 b 31 (hcL (x.at sb sd)) ∧ w.heap.size ≤ g ∧ g < b ∧ True) := by
    obtain ⟨hb, b0, l0, _⟩ := HX1.out
    obtain ⟨hg, hb2, bn⟩ := HN.out
    have z0 := b0.lt
    exact ⟨Below.on hb hb2, b0.later hb2, bn, l0, by omega, trivial⟩
  clear HN HX1
  have k0 := Box.cell (HX2.out.2.1) 0 rfl
  have k1 := Box.cell (HX2.out.2.1) 1 rfl
  have k2 := Box.cell (HX2.out.2.1) 2 rfl
  have k3 := Box.cell (HX2.out.2.1) 3 rfl
  have k4 := Box.cell (HX2.out.2.1) 4 rfl
  have k5 := Box.cell (HX2.out.2.1) 5 rfl
  have k6 := Box.cell (HX2.out.2.1) 6 rfl
  have k7 := Box.cell (HX2.out.2.1) 7 rfl
  have k8 := Box.cell (HX2.out.2.1) 8 rfl
  have j0 := Box.cell (HX2.out.2.2.1) 0 rfl
  have j1 := Box.cell (HX2.out.2.2.1) 1 rfl
  have j2 := Box.cell (HX2.out.2.2.1) 2 rfl
  have j3 := Box.cell (HX2.out.2.2.1) 3 rfl
  have j4 := Box.cell (HX2.out.2.2.1) 4 rfl
  have j5 := Box.cell (HX2.out.2.2.1) 5 rfl
  have j6 := Box.cell (HX2.out.2.2.1) 6 rfl
  have j7 := Box.cell (HX2.out.2.2.1) 7 rfl
  have j8 := Box.cell (HX2.out.2.2.1) 8 rfl
  have hpj := HX2.out.1
  have c1 := HS.out X2 HX2.out.1
  go_wp2_with fail
  refine c1.mono ?_
  rintro e w9 ⟨rfl, nq, rfl⟩
  go_wp2_with fail
  go_ret
  exact ⟨rfl, below_drewN hpj _⟩
theorem hsame_is (h : Ak.Hr) (va vb : Option Addr) (vc vd : Nat) (w : World) (hA : TimsAt w va h.sp) (hB : TimsAt w vb h.sp) : Calls Try.prog 9 #[agv (hcL (hcOf h va vc)), agv (hcL (hcOf h vb vd))] w fun e w' => e = .returned (.bool true) ∧ Below w.heap.size w w' :=
  hsame_w (hcOf h va vc) vb vd w fun W hW => ssame_any va vb vc vd h.sp W (hA.later hW) (hB.later hW)
end Go.Proofs.Ytdodagpkkjpdiaa
