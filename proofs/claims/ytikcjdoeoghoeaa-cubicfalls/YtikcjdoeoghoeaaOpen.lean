/- Controllers and numbers that came in. -/
import Derived.Test.YtikcjdoeoghoeaaKHeads
import Derived.Deep.SlicePairs
import Derived.SizedLaws
namespace Go.Proofs.Ytikcjdoeoghoeaa
open Go.ChangeShapes Go.WideShapes Go.ChangeAt Go.RowKit
set_option linter.unusedVariables false

theorem bounds_i64 {a : Int} (h : (Lit.int .i64 a).wf = true) : I64 a := by
  simp [Lit.wf, IntKind.min, IntKind.max, IntKind.signed, IntKind.bits] at h; unfold I64; omega
theorem open_bw {H : Type} {enc : TypeId × Value → H} {w : World} {fuel : Nat} {v : Value} {d : DataW H} {p : List MemPlace} (h : DataW.trod enc Try.prog w 0 (fun _ => true) true fuel 24 [v] = some (d, p)) :
    ∃ a n c, v = .slice a n c ∧ n ≤ 9223372036854775807 := by
  rcases Deep.open_slice_pairs Try.underlying24 Try.underlying59 (by kernel_rfl) rfl rfl (by kernel_rfl) (by kernel_rfl) h with ⟨hcs, _⟩ | ⟨y, len, cap, m, n, V0, V1, D0, D1, P0, P1, hcs, _, hl, hm, hmm, hx0, hx⟩
  · simp at hcs
    exact ⟨none, 0, 0, hcs, by omega⟩
  · simp at hcs
    simp only [maxLen] at hm
    exact ⟨_, _, _, hcs, by omega⟩
set_option maxRecDepth 100000 in
theorem open_cc {H : Type} {enc : TypeId × Value → H} {w : World} {base : Nat} {v : Value} {d : DataW H} {p : List MemPlace} (hv : Value.okWide Try.prog w .any base 26 v) (h : DataW.Trod enc Try.prog w 0 (fun _ => true) true 26 v d p) :
    ∃ c : Cc, v = ccv c ∧ CcI c := by
  obtain ⟨cs, rfl, hsz⟩ := okWide_struct Try.underlying26 hv
  obtain ⟨fuel, hf⟩ := h
  obtain ⟨xs, n, _, hd, _, hxl, hx⟩ := DataW.trod_struct Try.underlying26 hf
  have hc : Try.prog.cellsOf 26 = 22 := by kernel_rfl
  have c3 : Try.prog.cellsOf 3 = 1 := by kernel_rfl
  have c22 : Try.prog.cellsOf 22 = 1 := by kernel_rfl
  have c23 : Try.prog.cellsOf 23 = 1 := by kernel_rfl
  have c24 : Try.prog.cellsOf 24 = 1 := by kernel_rfl
  rw [hc] at hsz
  obtain ⟨l⟩ := cs
  match l, hsz, xs, hxl with
  | [a0, a1, a2, a3, a4, a5, a6, a7, a8, a9, a10, a11, a12, a13, a14, a15, a16, a17, a18, a19, a20, a21], _, [y0, y1, y2, y3, y4, y5, y6, y7, y8, y9, y10, y11, y12, y13, y14, y15, y16, y17, y18, y19, y20, y21], _ =>
    have g0 : DataW.trod enc Try.prog w 0 (fun _ => true) true n 22 (([a0, a1, a2, a3, a4, a5, a6, a7, a8, a9, a10, a11, a12, a13, a14, a15, a16, a17, a18, a19, a20, a21].drop 0).take (Try.prog.cellsOf 22)) = some y0 := hx 0 _ rfl
    rw [c22] at g0
    obtain ⟨z0, e0, _, w0⟩ := DataW.trod_int (k := .i64) Try.underlying22 g0
    simp at e0
    have g1 : DataW.trod enc Try.prog w 0 (fun _ => true) true n 3 (([a0, a1, a2, a3, a4, a5, a6, a7, a8, a9, a10, a11, a12, a13, a14, a15, a16, a17, a18, a19, a20, a21].drop 1).take (Try.prog.cellsOf 3)) = some y1 := hx 1 _ rfl
    rw [c3] at g1
    obtain ⟨z1, e1, _, w1⟩ := DataW.trod_int (k := .i64) Try.underlying3 g1
    simp at e1
    have g2 : DataW.trod enc Try.prog w 0 (fun _ => true) true n 3 (([a0, a1, a2, a3, a4, a5, a6, a7, a8, a9, a10, a11, a12, a13, a14, a15, a16, a17, a18, a19, a20, a21].drop 2).take (Try.prog.cellsOf 3)) = some y2 := hx 2 _ rfl
    rw [c3] at g2
    obtain ⟨z2, e2, _, w2⟩ := DataW.trod_int (k := .i64) Try.underlying3 g2
    simp at e2
    have g3 : DataW.trod enc Try.prog w 0 (fun _ => true) true n 3 (([a0, a1, a2, a3, a4, a5, a6, a7, a8, a9, a10, a11, a12, a13, a14, a15, a16, a17, a18, a19, a20, a21].drop 3).take (Try.prog.cellsOf 3)) = some y3 := hx 3 _ rfl
    rw [c3] at g3
    obtain ⟨z3, e3, _, w3⟩ := DataW.trod_int (k := .i64) Try.underlying3 g3
    simp at e3
    have g4 : DataW.trod enc Try.prog w 0 (fun _ => true) true n 3 (([a0, a1, a2, a3, a4, a5, a6, a7, a8, a9, a10, a11, a12, a13, a14, a15, a16, a17, a18, a19, a20, a21].drop 4).take (Try.prog.cellsOf 3)) = some y4 := hx 4 _ rfl
    rw [c3] at g4
    obtain ⟨z4, e4, _, w4⟩ := DataW.trod_int (k := .i64) Try.underlying3 g4
    simp at e4
    have g5 : DataW.trod enc Try.prog w 0 (fun _ => true) true n 3 (([a0, a1, a2, a3, a4, a5, a6, a7, a8, a9, a10, a11, a12, a13, a14, a15, a16, a17, a18, a19, a20, a21].drop 5).take (Try.prog.cellsOf 3)) = some y5 := hx 5 _ rfl
    rw [c3] at g5
    obtain ⟨z5, e5, _, w5⟩ := DataW.trod_int (k := .i64) Try.underlying3 g5
    simp at e5
    have g6 : DataW.trod enc Try.prog w 0 (fun _ => true) true n 3 (([a0, a1, a2, a3, a4, a5, a6, a7, a8, a9, a10, a11, a12, a13, a14, a15, a16, a17, a18, a19, a20, a21].drop 6).take (Try.prog.cellsOf 3)) = some y6 := hx 6 _ rfl
    rw [c3] at g6
    obtain ⟨z6, e6, _, w6⟩ := DataW.trod_int (k := .i64) Try.underlying3 g6
    simp at e6
    have g7 : DataW.trod enc Try.prog w 0 (fun _ => true) true n 3 (([a0, a1, a2, a3, a4, a5, a6, a7, a8, a9, a10, a11, a12, a13, a14, a15, a16, a17, a18, a19, a20, a21].drop 7).take (Try.prog.cellsOf 3)) = some y7 := hx 7 _ rfl
    rw [c3] at g7
    obtain ⟨z7, e7, _, w7⟩ := DataW.trod_int (k := .i64) Try.underlying3 g7
    simp at e7
    have g8 : DataW.trod enc Try.prog w 0 (fun _ => true) true n 3 (([a0, a1, a2, a3, a4, a5, a6, a7, a8, a9, a10, a11, a12, a13, a14, a15, a16, a17, a18, a19, a20, a21].drop 8).take (Try.prog.cellsOf 3)) = some y8 := hx 8 _ rfl
    rw [c3] at g8
    obtain ⟨z8, e8, _, w8⟩ := DataW.trod_int (k := .i64) Try.underlying3 g8
    simp at e8
    have g9 : DataW.trod enc Try.prog w 0 (fun _ => true) true n 3 (([a0, a1, a2, a3, a4, a5, a6, a7, a8, a9, a10, a11, a12, a13, a14, a15, a16, a17, a18, a19, a20, a21].drop 9).take (Try.prog.cellsOf 3)) = some y9 := hx 9 _ rfl
    rw [c3] at g9
    obtain ⟨z9, e9, _, w9⟩ := DataW.trod_int (k := .i64) Try.underlying3 g9
    simp at e9
    have g10 : DataW.trod enc Try.prog w 0 (fun _ => true) true n 23 (([a0, a1, a2, a3, a4, a5, a6, a7, a8, a9, a10, a11, a12, a13, a14, a15, a16, a17, a18, a19, a20, a21].drop 10).take (Try.prog.cellsOf 23)) = some y10 := hx 10 _ rfl
    rw [c23] at g10
    obtain ⟨z10, e10, _, w10⟩ := DataW.trod_int (k := .i64) Try.underlying23 g10
    simp at e10
    have g11 : DataW.trod enc Try.prog w 0 (fun _ => true) true n 24 (([a0, a1, a2, a3, a4, a5, a6, a7, a8, a9, a10, a11, a12, a13, a14, a15, a16, a17, a18, a19, a20, a21].drop 11).take (Try.prog.cellsOf 24)) = some y11 := hx 11 _ rfl
    rw [c24] at g11
    have g11' : DataW.trod enc Try.prog w 0 (fun _ => true) true n 24 [a11] = some (y11.1, y11.2) := g11
    obtain ⟨bA, bn, bc, e11, hbn⟩ := open_bw g11'
    have g12 : DataW.trod enc Try.prog w 0 (fun _ => true) true n 3 (([a0, a1, a2, a3, a4, a5, a6, a7, a8, a9, a10, a11, a12, a13, a14, a15, a16, a17, a18, a19, a20, a21].drop 12).take (Try.prog.cellsOf 3)) = some y12 := hx 12 _ rfl
    rw [c3] at g12
    obtain ⟨z12, e12, _, w12⟩ := DataW.trod_int (k := .i64) Try.underlying3 g12
    simp at e12
    have g13 : DataW.trod enc Try.prog w 0 (fun _ => true) true n 3 (([a0, a1, a2, a3, a4, a5, a6, a7, a8, a9, a10, a11, a12, a13, a14, a15, a16, a17, a18, a19, a20, a21].drop 13).take (Try.prog.cellsOf 3)) = some y13 := hx 13 _ rfl
    rw [c3] at g13
    obtain ⟨z13, e13, _, w13⟩ := DataW.trod_int (k := .i64) Try.underlying3 g13
    simp at e13
    have g14 : DataW.trod enc Try.prog w 0 (fun _ => true) true n 3 (([a0, a1, a2, a3, a4, a5, a6, a7, a8, a9, a10, a11, a12, a13, a14, a15, a16, a17, a18, a19, a20, a21].drop 14).take (Try.prog.cellsOf 3)) = some y14 := hx 14 _ rfl
    rw [c3] at g14
    obtain ⟨z14, e14, _, w14⟩ := DataW.trod_int (k := .i64) Try.underlying3 g14
    simp at e14
    have g15 : DataW.trod enc Try.prog w 0 (fun _ => true) true n 3 (([a0, a1, a2, a3, a4, a5, a6, a7, a8, a9, a10, a11, a12, a13, a14, a15, a16, a17, a18, a19, a20, a21].drop 15).take (Try.prog.cellsOf 3)) = some y15 := hx 15 _ rfl
    rw [c3] at g15
    obtain ⟨z15, e15, _, w15⟩ := DataW.trod_int (k := .i64) Try.underlying3 g15
    simp at e15
    have g16 : DataW.trod enc Try.prog w 0 (fun _ => true) true n 3 (([a0, a1, a2, a3, a4, a5, a6, a7, a8, a9, a10, a11, a12, a13, a14, a15, a16, a17, a18, a19, a20, a21].drop 16).take (Try.prog.cellsOf 3)) = some y16 := hx 16 _ rfl
    rw [c3] at g16
    obtain ⟨z16, e16, _, w16⟩ := DataW.trod_int (k := .i64) Try.underlying3 g16
    simp at e16
    have g17 : DataW.trod enc Try.prog w 0 (fun _ => true) true n 3 (([a0, a1, a2, a3, a4, a5, a6, a7, a8, a9, a10, a11, a12, a13, a14, a15, a16, a17, a18, a19, a20, a21].drop 17).take (Try.prog.cellsOf 3)) = some y17 := hx 17 _ rfl
    rw [c3] at g17
    obtain ⟨z17, e17, _, w17⟩ := DataW.trod_int (k := .i64) Try.underlying3 g17
    simp at e17
    have g18 : DataW.trod enc Try.prog w 0 (fun _ => true) true n 3 (([a0, a1, a2, a3, a4, a5, a6, a7, a8, a9, a10, a11, a12, a13, a14, a15, a16, a17, a18, a19, a20, a21].drop 18).take (Try.prog.cellsOf 3)) = some y18 := hx 18 _ rfl
    rw [c3] at g18
    obtain ⟨z18, e18, _, w18⟩ := DataW.trod_int (k := .i64) Try.underlying3 g18
    simp at e18
    have g19 : DataW.trod enc Try.prog w 0 (fun _ => true) true n 3 (([a0, a1, a2, a3, a4, a5, a6, a7, a8, a9, a10, a11, a12, a13, a14, a15, a16, a17, a18, a19, a20, a21].drop 19).take (Try.prog.cellsOf 3)) = some y19 := hx 19 _ rfl
    rw [c3] at g19
    obtain ⟨z19, e19, _, w19⟩ := DataW.trod_int (k := .i64) Try.underlying3 g19
    simp at e19
    have g20 : DataW.trod enc Try.prog w 0 (fun _ => true) true n 3 (([a0, a1, a2, a3, a4, a5, a6, a7, a8, a9, a10, a11, a12, a13, a14, a15, a16, a17, a18, a19, a20, a21].drop 20).take (Try.prog.cellsOf 3)) = some y20 := hx 20 _ rfl
    rw [c3] at g20
    obtain ⟨z20, e20, _, w20⟩ := DataW.trod_int (k := .i64) Try.underlying3 g20
    simp at e20
    have g21 : DataW.trod enc Try.prog w 0 (fun _ => true) true n 3 (([a0, a1, a2, a3, a4, a5, a6, a7, a8, a9, a10, a11, a12, a13, a14, a15, a16, a17, a18, a19, a20, a21].drop 21).take (Try.prog.cellsOf 3)) = some y21 := hx 21 _ rfl
    rw [c3] at g21
    obtain ⟨z21, e21, _, w21⟩ := DataW.trod_int (k := .i64) Try.underlying3 g21
    simp at e21
    subst e0; subst e1; subst e2; subst e3; subst e4; subst e5; subst e6; subst e7; subst e8; subst e9; subst e10; subst e11; subst e12; subst e13; subst e14; subst e15; subst e16; subst e17; subst e18; subst e19; subst e20; subst e21
    exact ⟨⟨z0, z1, z2, z3, z4, z5, z6, z7, z8, z9, z10, bA, bn, bc, z12, z13, z14, z15, z16, z17, z18, z19, z20, z21⟩, rfl, ⟨bounds_i64 w0, bounds_i64 w1, bounds_i64 w2, bounds_i64 w3, bounds_i64 w4, bounds_i64 w5, bounds_i64 w6, bounds_i64 w7, bounds_i64 w8, bounds_i64 w9, bounds_i64 w10, bounds_i64 w12, bounds_i64 w13, bounds_i64 w14, bounds_i64 w15, bounds_i64 w16, bounds_i64 w17, bounds_i64 w18, bounds_i64 w19, bounds_i64 w20, bounds_i64 w21, hbn⟩⟩
end Go.Proofs.Ytikcjdoeoghoeaa
