/- Windows that came in. -/
import Derived.Test.YtliiogafemlagaaBase
import Derived.Deep.SlicePairs
import Derived.Deep.Slices
import Derived.ProofKit
import Derived.OpenShut
import Derived.SizedLaws
namespace Go.Proofs.Ytliiogafemlagaa
open Go.ChangeShapes Go.WideShapes Go.ChangeAt Go.RowKit Go.Shelf
set_option linter.unusedVariables false
set_option linter.unusedSimpArgs false
attribute [local go_sem] Oper.semAt_some

theorem bounds_i64 {a : Int} (h : (Lit.int .i64 a).wf = true) : I64 a := by
  simp [Lit.wf, IntKind.min, IntKind.max, IntKind.signed, IntKind.bits] at h; unfold I64; omega
theorem open_wn7 {H : Type} {enc : TypeId × Value → H} {w : World} {base : Nat} {v : Value} {d : DataW H} {p : List MemPlace} (hv : Value.okWide Try.prog w .any base 23 v) (h : DataW.Trod enc Try.prog w 0 (fun _ => true) true 23 v d p) :
    ∃ z0 z1 z2 z3 z4 z5 z6, v = .agg #[.int .i64 z0, .int .i64 z1, .int .i64 z2, .int .i64 z3, .int .i64 z4, .int .i64 z5, .int .i64 z6] ∧ I64 z0 ∧ I64 z1 ∧ I64 z2 ∧ I64 z3 ∧ I64 z4 ∧ I64 z5 ∧ I64 z6 := by
  obtain ⟨cs, rfl, hsz⟩ := okWide_struct Try.underlying23 hv
  obtain ⟨fuel, hf⟩ := h
  obtain ⟨xs, n, _, hd, _, hxl, hx⟩ := DataW.trod_struct Try.underlying23 hf
  have hc : Try.prog.cellsOf 23 = 7 := by kernel_rfl
  have c3 : Try.prog.cellsOf 3 = 1 := by kernel_rfl
  rw [hc] at hsz
  obtain ⟨l⟩ := cs
  match l, hsz, xs, hxl with
  | [a0, a1, a2, a3, a4, a5, a6], _, [y0, y1, y2, y3, y4, y5, y6], _ =>
    have g0 : DataW.trod enc Try.prog w 0 (fun _ => true) true n 3 (([a0, a1, a2, a3, a4, a5, a6].drop 0).take (Try.prog.cellsOf 3)) = some y0 := hx 0 _ rfl
    rw [c3] at g0
    have g1 : DataW.trod enc Try.prog w 0 (fun _ => true) true n 3 (([a0, a1, a2, a3, a4, a5, a6].drop 1).take (Try.prog.cellsOf 3)) = some y1 := hx 1 _ rfl
    rw [c3] at g1
    have g2 : DataW.trod enc Try.prog w 0 (fun _ => true) true n 3 (([a0, a1, a2, a3, a4, a5, a6].drop 2).take (Try.prog.cellsOf 3)) = some y2 := hx 2 _ rfl
    rw [c3] at g2
    have g3 : DataW.trod enc Try.prog w 0 (fun _ => true) true n 3 (([a0, a1, a2, a3, a4, a5, a6].drop 3).take (Try.prog.cellsOf 3)) = some y3 := hx 3 _ rfl
    rw [c3] at g3
    have g4 : DataW.trod enc Try.prog w 0 (fun _ => true) true n 3 (([a0, a1, a2, a3, a4, a5, a6].drop 4).take (Try.prog.cellsOf 3)) = some y4 := hx 4 _ rfl
    rw [c3] at g4
    have g5 : DataW.trod enc Try.prog w 0 (fun _ => true) true n 3 (([a0, a1, a2, a3, a4, a5, a6].drop 5).take (Try.prog.cellsOf 3)) = some y5 := hx 5 _ rfl
    rw [c3] at g5
    have g6 : DataW.trod enc Try.prog w 0 (fun _ => true) true n 3 (([a0, a1, a2, a3, a4, a5, a6].drop 6).take (Try.prog.cellsOf 3)) = some y6 := hx 6 _ rfl
    rw [c3] at g6
    obtain ⟨z0, e0, _, w0⟩ := DataW.trod_int (k := .i64) Try.underlying3 g0
    obtain ⟨z1, e1, _, w1⟩ := DataW.trod_int (k := .i64) Try.underlying3 g1
    obtain ⟨z2, e2, _, w2⟩ := DataW.trod_int (k := .i64) Try.underlying3 g2
    obtain ⟨z3, e3, _, w3⟩ := DataW.trod_int (k := .i64) Try.underlying3 g3
    obtain ⟨z4, e4, _, w4⟩ := DataW.trod_int (k := .i64) Try.underlying3 g4
    obtain ⟨z5, e5, _, w5⟩ := DataW.trod_int (k := .i64) Try.underlying3 g5
    obtain ⟨z6, e6, _, w6⟩ := DataW.trod_int (k := .i64) Try.underlying3 g6
    simp at e0 e1 e2 e3 e4 e5 e6
    subst e0; subst e1; subst e2; subst e3; subst e4; subst e5; subst e6
    exact ⟨z0, z1, z2, z3, z4, z5, z6, rfl, bounds_i64 w0, bounds_i64 w1, bounds_i64 w2, bounds_i64 w3, bounds_i64 w4, bounds_i64 w5, bounds_i64 w6⟩

theorem open_wn {H : Type} {enc : TypeId × Value → H} {w : World} {base : Nat} {v : Value} {d : DataW H} {p : List MemPlace} (hv : Value.okWide Try.prog w .any base 23 v) (h : DataW.Trod enc Try.prog w 0 (fun _ => true) true 23 v d p) : ∃ q : Wn, v = agv (wnL q) ∧ WnI q := by
  obtain ⟨z0, z1, z2, z3, z4, z5, z6, rfl, h0, h1, h2, h3, h4, h5, h6⟩ := open_wn7 hv h
  exact ⟨⟨z0, z1, z2, z3, z4, z5, z6⟩, rfl, ⟨h0, h1, h2, h3, h4, h5, h6⟩⟩
end Go.Proofs.Ytliiogafemlagaa
