/- Wants that came in. -/
import Derived.Test.YtmfbcdjedegofaaHeads
import Derived.Deep.SlicePairs
import Derived.ProofKit
import Derived.OpenShut
import Derived.SizedLaws
namespace Go.Proofs.Ytmfbcdjedegofaa
open Go.ChangeShapes Go.WideShapes Go.ChangeAt Go.RowKit
set_option linter.unusedVariables false


theorem bounds_i64 {a : Int} (h : (Lit.int .i64 a).wf = true) : I64 a := by
  simp [Lit.wf, IntKind.min, IntKind.max, IntKind.signed, IntKind.bits] at h; unfold I64; omega
theorem open_want {H : Type} {enc : TypeId × Value → H} {w : World} {base : Nat} {v : Value} {d : DataW H} {p : List MemPlace} (hv : Value.okWide Try.prog w .any base 23 v) (h : DataW.Trod enc Try.prog w 0 (fun _ => true) true 23 v d p) :
    ∃ nx en cl fi ed un ms rm mo na fo, v = .agg #[.int .i64 nx, .int .i64 en, .bool cl, .bool fi, .int .i64 ed, .int .i64 un, .int .i64 ms, .int .i64 rm, .int .i64 mo, .bool na, .bool fo] ∧ Ints nx en ed un ms rm mo := by
  obtain ⟨cs, rfl, hsz⟩ := okWide_struct Try.underlying23 hv
  obtain ⟨fuel, hf⟩ := h
  obtain ⟨xs, n, _, hd, _, hxl, hx⟩ := DataW.trod_struct Try.underlying23 hf
  have hc : Try.prog.cellsOf 23 = 11 := by kernel_rfl
  have c3 : Try.prog.cellsOf 3 = 1 := by kernel_rfl
  have c4 : Try.prog.cellsOf 4 = 1 := by kernel_rfl
  rw [hc] at hsz
  obtain ⟨l⟩ := cs
  match l, hsz, xs, hxl with
  | [a0, a1, a2, a3, a4, a5, a6, a7, a8, a9, a10], _, [y0, y1, y2, y3, y4, y5, y6, y7, y8, y9, y10], _ =>
    have g0 : DataW.trod enc Try.prog w 0 (fun _ => true) true n 3 (([a0, a1, a2, a3, a4, a5, a6, a7, a8, a9, a10].drop 0).take (Try.prog.cellsOf 3)) = some y0 := hx 0 _ rfl
    rw [c3] at g0
    have g1 : DataW.trod enc Try.prog w 0 (fun _ => true) true n 3 (([a0, a1, a2, a3, a4, a5, a6, a7, a8, a9, a10].drop 1).take (Try.prog.cellsOf 3)) = some y1 := hx 1 _ rfl
    rw [c3] at g1
    have g2 : DataW.trod enc Try.prog w 0 (fun _ => true) true n 4 (([a0, a1, a2, a3, a4, a5, a6, a7, a8, a9, a10].drop 2).take (Try.prog.cellsOf 4)) = some y2 := hx 2 _ rfl
    rw [c4] at g2
    have g3 : DataW.trod enc Try.prog w 0 (fun _ => true) true n 4 (([a0, a1, a2, a3, a4, a5, a6, a7, a8, a9, a10].drop 3).take (Try.prog.cellsOf 4)) = some y3 := hx 3 _ rfl
    rw [c4] at g3
    have g4 : DataW.trod enc Try.prog w 0 (fun _ => true) true n 3 (([a0, a1, a2, a3, a4, a5, a6, a7, a8, a9, a10].drop 4).take (Try.prog.cellsOf 3)) = some y4 := hx 4 _ rfl
    rw [c3] at g4
    have g5 : DataW.trod enc Try.prog w 0 (fun _ => true) true n 3 (([a0, a1, a2, a3, a4, a5, a6, a7, a8, a9, a10].drop 5).take (Try.prog.cellsOf 3)) = some y5 := hx 5 _ rfl
    rw [c3] at g5
    have g6 : DataW.trod enc Try.prog w 0 (fun _ => true) true n 3 (([a0, a1, a2, a3, a4, a5, a6, a7, a8, a9, a10].drop 6).take (Try.prog.cellsOf 3)) = some y6 := hx 6 _ rfl
    rw [c3] at g6
    have g7 : DataW.trod enc Try.prog w 0 (fun _ => true) true n 3 (([a0, a1, a2, a3, a4, a5, a6, a7, a8, a9, a10].drop 7).take (Try.prog.cellsOf 3)) = some y7 := hx 7 _ rfl
    rw [c3] at g7
    have g8 : DataW.trod enc Try.prog w 0 (fun _ => true) true n 3 (([a0, a1, a2, a3, a4, a5, a6, a7, a8, a9, a10].drop 8).take (Try.prog.cellsOf 3)) = some y8 := hx 8 _ rfl
    rw [c3] at g8
    have g9 : DataW.trod enc Try.prog w 0 (fun _ => true) true n 4 (([a0, a1, a2, a3, a4, a5, a6, a7, a8, a9, a10].drop 9).take (Try.prog.cellsOf 4)) = some y9 := hx 9 _ rfl
    rw [c4] at g9
    have g10 : DataW.trod enc Try.prog w 0 (fun _ => true) true n 4 (([a0, a1, a2, a3, a4, a5, a6, a7, a8, a9, a10].drop 10).take (Try.prog.cellsOf 4)) = some y10 := hx 10 _ rfl
    rw [c4] at g10
    obtain ⟨z0, e0, _, w0⟩ := DataW.trod_int (k := .i64) Try.underlying3 g0
    obtain ⟨z1, e1, _, w1⟩ := DataW.trod_int (k := .i64) Try.underlying3 g1
    obtain ⟨z2, e2, _⟩ := DataW.trod_bool Try.underlying4 g2
    obtain ⟨z3, e3, _⟩ := DataW.trod_bool Try.underlying4 g3
    obtain ⟨z4, e4, _, w4⟩ := DataW.trod_int (k := .i64) Try.underlying3 g4
    obtain ⟨z5, e5, _, w5⟩ := DataW.trod_int (k := .i64) Try.underlying3 g5
    obtain ⟨z6, e6, _, w6⟩ := DataW.trod_int (k := .i64) Try.underlying3 g6
    obtain ⟨z7, e7, _, w7⟩ := DataW.trod_int (k := .i64) Try.underlying3 g7
    obtain ⟨z8, e8, _, w8⟩ := DataW.trod_int (k := .i64) Try.underlying3 g8
    obtain ⟨z9, e9, _⟩ := DataW.trod_bool Try.underlying4 g9
    obtain ⟨z10, e10, _⟩ := DataW.trod_bool Try.underlying4 g10
    simp at e0 e1 e2 e3 e4 e5 e6 e7 e8 e9 e10
    subst e0; subst e1; subst e2; subst e3; subst e4; subst e5; subst e6; subst e7; subst e8; subst e9; subst e10
    exact ⟨z0, z1, z2, z3, z4, z5, z6, z7, z8, z9, z10, rfl, bounds_i64 w0, bounds_i64 w1, bounds_i64 w4, bounds_i64 w5, bounds_i64 w6, bounds_i64 w7, bounds_i64 w8⟩
end Go.Proofs.Ytmfbcdjedegofaa
