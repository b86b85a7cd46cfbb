/- What the listed variables give: three errors, each another; and a world in which they are laid. -/
import Derived.Test.YtllmeeebjjmanaaDoorOpen
import Derived.Test.YtllmeeebjjmanaaDoorTie
import Derived.Test.YtllmeeebjjmanaaDoorCards
import Derived.MakeChecks
namespace Go.Proofs.YtllmeeebjjmanaaDoor
open Go.ChangeShapes Go.WideShapes Go.ChangeAt Go.RowKit Go.Shelf
set_option linter.unusedVariables false

theorem Tryd.own : ownKnob Tryd.prog.godebug = none := by kernel_rfl
theorem Tryd.laidOut : laidOutB Tryd.prog = true := by kernel_rfl
theorem Tryd.gA : Tryd.prog.globalNamed "tideway/wire.errArg" = some 0 := by kernel_rfl
theorem Tryd.gS : Tryd.prog.globalNamed "tideway/wire.errShort" = some 1 := by kernel_rfl
theorem Tryd.gM : Tryd.prog.globalNamed "tideway/wire.errSum" = some 2 := by kernel_rfl
theorem Tryd.gAT : (Tryd.prog.globals[0]?).map (·.type) = some 58 := by kernel_rfl
theorem Tryd.gST : (Tryd.prog.globals[1]?).map (·.type) = some 58 := by kernel_rfl
theorem Tryd.gMT : (Tryd.prog.globals[2]?).map (·.type) = some 58 := by kernel_rfl
theorem Tryd.cells132 : Tryd.prog.cellsOf 132 = 1 := by kernel_rfl
theorem Tryd.cells9 : Tryd.prog.cellsOf 9 = 1 := by kernel_rfl
theorem Tryd.star : "*" ++ "errors.errorString" = "*errors.errorString" := by decide
theorem Tryd.rowE (u : TypeId) (h : Tryd.prog.typeName? 3 u = some "*errors.errorString") : u = 107 :=
  typeName_ptr_named (nm := "errors.errorString") (by rw [Tryd.star]; kernel_rfl) (by kernel_rfl) (by decide) u (by rw [Tryd.star]; exact h)

/-- The listed variables. -/
abbrev laid3 : List (String × DataW Unit) := [("tideway/wire.errArg", Rows.laid_tideway_wire_errArg), ("tideway/wire.errShort", Rows.laid_tideway_wire_errShort), ("tideway/wire.errSum", Rows.laid_tideway_wire_errSum)]

set_option maxRecDepth 100000 in
theorem errs_of_laid {W : World} (h : laidMetH Tryd.prog laid3 W) : ∃ a0 a1 a2, Errs W a0 a1 a2 := by
  have h' : laidMet Tryd.prog laid3 W := h
  obtain ⟨ps, ⟨g0', t0', cs0, f0, p0, q0, hg0', ht0', hv0, hd0, ⟨g1', t1', cs1, f1, p1, q1, hg1', ht1', hv1, hd1, ⟨g2', t2', cs2, f2, p2, q2, hg2', ht2', hv2, hd2, _, e2⟩, e1⟩, e0⟩, hnd, hrows⟩ := h'
  obtain rfl := Option.some.inj (Tryd.gA.symm.trans hg0')
  obtain rfl := Option.some.inj (Tryd.gS.symm.trans hg1')
  obtain rfl := Option.some.inj (Tryd.gM.symm.trans hg2')
  obtain rfl := Option.some.inj (Tryd.gAT.symm.trans ht0')
  obtain rfl := Option.some.inj (Tryd.gST.symm.trans ht1')
  obtain rfl := Option.some.inj (Tryd.gMT.symm.trans ht2')
  subst e2
  subst e1
  subst e0
  obtain ⟨l0⟩ := cs0
  obtain ⟨l1⟩ := cs1
  obtain ⟨l2⟩ := cs2
  have ok0 : ∀ u v, l0 = [.iface u v] → Value.okWide Tryd.prog W .any 0 u v := fun u v e => by
    subst e
    exact (hrows 0 0 (by simp [MemPlace.row])).2 u v (by simpa using World.var?_cell hg0' hv0 0)
  have ok1 : ∀ u v, l1 = [.iface u v] → Value.okWide Tryd.prog W .any 0 u v := fun u v e => by
    subst e
    exact (hrows 1 0 (by simp [MemPlace.row])).2 u v (by simpa using World.var?_cell hg1' hv1 0)
  have ok2 : ∀ u v, l2 = [.iface u v] → Value.okWide Tryd.prog W .any 0 u v := fun u v e => by
    subst e
    exact (hrows 2 0 (by simp [MemPlace.row])).2 u v (by simpa using World.var?_cell hg2' hv2 0)
  obtain ⟨a0, s0, rfl, hc0, hs0, hz0, rfl⟩ := errorString_of_trod Tryd.underlying58 Tryd.rowE Tryd.underlying107 Tryd.underlying132 rfl rfl Tryd.underlying9 Tryd.cells132 Tryd.cells9 hd0 ok0
  obtain ⟨a1, s1, rfl, hc1, hs1, hz1, rfl⟩ := errorString_of_trod Tryd.underlying58 Tryd.rowE Tryd.underlying107 Tryd.underlying132 rfl rfl Tryd.underlying9 Tryd.cells132 Tryd.cells9 hd1 ok1
  obtain ⟨a2, s2, rfl, hc2, hs2, hz2, rfl⟩ := errorString_of_trod Tryd.underlying58 Tryd.rowE Tryd.underlying107 Tryd.underlying132 rfl rfl Tryd.underlying9 Tryd.cells132 Tryd.cells9 hd2 ok2
  obtain ⟨c0, t0, hb0⟩ := (hrows a0.block a0.off (by simp [MemPlace.row])).1
  obtain ⟨c1, t1, hb1⟩ := (hrows a1.block a1.off (by simp [MemPlace.row])).1
  obtain ⟨c2, t2, hb2⟩ := (hrows a2.block a2.off (by simp [MemPlace.row])).1
  refine ⟨a0, a1, a2, by simpa using World.var?_cell hg0' hv0 0, by simpa using World.var?_cell hg1' hv1 0, by simpa using World.var?_cell hg2' hv2 0, ⟨_, _, hb0⟩, ⟨_, _, hb1⟩, ⟨_, _, hb2⟩, ?_, ?_, ?_⟩
  · rintro rfl
    simp [MemPlace.row] at hnd
  · rintro rfl
    simp [MemPlace.row] at hnd
  · rintro rfl
    simp [MemPlace.row] at hnd
end Go.Proofs.YtllmeeebjjmanaaDoor
