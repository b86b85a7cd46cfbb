/- States, records and rows that came in. -/
import Derived.Test.YtfkkpianlmpknaaBase
import Derived.Deep.SlicePairs
import Derived.Deep.Slices
import Derived.ProofKit
import Derived.OpenShut
import Derived.SizedLaws
namespace Go.Proofs.Ytfkkpianlmpknaa
open Go.ChangeShapes Go.WideShapes Go.ChangeAt Go.RowKit Go.Shelf
set_option linter.unusedVariables false
set_option linter.unusedSimpArgs false
attribute [local go_sem] Oper.semAt_some
theorem bounds_i64 {a : Int} (h : (Lit.int .i64 a).wf = true) : I64 a := by
  simp [Lit.wf, IntKind.min, IntKind.max, IntKind.signed, IntKind.bits] at h; unfold I64; omega
theorem open_rack {H : Type} {enc : TypeId × Value → H} {w : World} {base : Nat} {v : Value} {d : DataW H} {p : List MemPlace} (hv : Value.okWide Try.prog w .any base 23 v) (h : DataW.Trod enc Try.prog w 0 (fun _ => true) true 23 v d p) :
    ∃ z0 z1 z2 z3 z4 z5 z6 z7, v = .agg #[.int .i64 z0, .int .i64 z1, .int .i64 z2, .bool z3, .int .i64 z4, .int .i64 z5, .int .i64 z6, .int .i64 z7] ∧ I64 z0 ∧ I64 z1 ∧ I64 z2 ∧ I64 z4 ∧ I64 z5 ∧ I64 z6 ∧ I64 z7 := by
  obtain ⟨cs, rfl, hsz⟩ := okWide_struct Try.underlying23 hv
  obtain ⟨fuel, hf⟩ := h
  obtain ⟨xs, n, _, hd, _, hxl, hx⟩ := DataW.trod_struct Try.underlying23 hf
  have hc : Try.prog.cellsOf 23 = 8 := by kernel_rfl
  have c3 : Try.prog.cellsOf 3 = 1 := by kernel_rfl
  have c4 : Try.prog.cellsOf 4 = 1 := by kernel_rfl
  rw [hc] at hsz
  obtain ⟨l⟩ := cs
  match l, hsz, xs, hxl with
  | [a0, a1, a2, a3, a4, a5, a6, a7], _, [y0, y1, y2, y3, y4, y5, y6, y7], _ =>
    have g0 : DataW.trod enc Try.prog w 0 (fun _ => true) true n 3 (([a0, a1, a2, a3, a4, a5, a6, a7].drop 0).take (Try.prog.cellsOf 3)) = some y0 := hx 0 _ rfl
    rw [c3] at g0
    have g1 : DataW.trod enc Try.prog w 0 (fun _ => true) true n 3 (([a0, a1, a2, a3, a4, a5, a6, a7].drop 1).take (Try.prog.cellsOf 3)) = some y1 := hx 1 _ rfl
    rw [c3] at g1
    have g2 : DataW.trod enc Try.prog w 0 (fun _ => true) true n 3 (([a0, a1, a2, a3, a4, a5, a6, a7].drop 2).take (Try.prog.cellsOf 3)) = some y2 := hx 2 _ rfl
    rw [c3] at g2
    have g3 : DataW.trod enc Try.prog w 0 (fun _ => true) true n 4 (([a0, a1, a2, a3, a4, a5, a6, a7].drop 3).take (Try.prog.cellsOf 4)) = some y3 := hx 3 _ rfl
    rw [c4] at g3
    have g4 : DataW.trod enc Try.prog w 0 (fun _ => true) true n 3 (([a0, a1, a2, a3, a4, a5, a6, a7].drop 4).take (Try.prog.cellsOf 3)) = some y4 := hx 4 _ rfl
    rw [c3] at g4
    have g5 : DataW.trod enc Try.prog w 0 (fun _ => true) true n 3 (([a0, a1, a2, a3, a4, a5, a6, a7].drop 5).take (Try.prog.cellsOf 3)) = some y5 := hx 5 _ rfl
    rw [c3] at g5
    have g6 : DataW.trod enc Try.prog w 0 (fun _ => true) true n 3 (([a0, a1, a2, a3, a4, a5, a6, a7].drop 6).take (Try.prog.cellsOf 3)) = some y6 := hx 6 _ rfl
    rw [c3] at g6
    have g7 : DataW.trod enc Try.prog w 0 (fun _ => true) true n 3 (([a0, a1, a2, a3, a4, a5, a6, a7].drop 7).take (Try.prog.cellsOf 3)) = some y7 := hx 7 _ rfl
    rw [c3] at g7
    obtain ⟨z0, e0, _, w0⟩ := DataW.trod_int (k := .i64) Try.underlying3 g0
    obtain ⟨z1, e1, _, w1⟩ := DataW.trod_int (k := .i64) Try.underlying3 g1
    obtain ⟨z2, e2, _, w2⟩ := DataW.trod_int (k := .i64) Try.underlying3 g2
    obtain ⟨z3, e3, _⟩ := DataW.trod_bool Try.underlying4 g3
    obtain ⟨z4, e4, _, w4⟩ := DataW.trod_int (k := .i64) Try.underlying3 g4
    obtain ⟨z5, e5, _, w5⟩ := DataW.trod_int (k := .i64) Try.underlying3 g5
    obtain ⟨z6, e6, _, w6⟩ := DataW.trod_int (k := .i64) Try.underlying3 g6
    obtain ⟨z7, e7, _, w7⟩ := DataW.trod_int (k := .i64) Try.underlying3 g7
    simp at e0 e1 e2 e3 e4 e5 e6 e7
    subst e0; subst e1; subst e2; subst e3; subst e4; subst e5; subst e6; subst e7
    exact ⟨z0, z1, z2, z3, z4, z5, z6, z7, rfl, bounds_i64 w0, bounds_i64 w1, bounds_i64 w2, bounds_i64 w4, bounds_i64 w5, bounds_i64 w6, bounds_i64 w7⟩
theorem open_recv {H : Type} {enc : TypeId × Value → H} {w : World} {base : Nat} {v : Value} {d : DataW H} {p : List MemPlace} (hv : Value.okWide Try.prog w .any base 25 v) (h : DataW.Trod enc Try.prog w 0 (fun _ => true) true 25 v d p) :
    ∃ z0 z1 z2 z3 z4 z5 z6 z7 z8 z9 z10 z11, v = .agg #[.int .i64 z0, .int .i64 z1, .bool z2, .int .i64 z3, .int .i64 z4, .bool z5, .bool z6, .bool z7, .int .i64 z8, .int .i64 z9, .int .i64 z10, .bool z11] ∧ I64 z0 ∧ I64 z1 ∧ I64 z3 ∧ I64 z4 ∧ I64 z8 ∧ I64 z9 ∧ I64 z10 := by
  obtain ⟨cs, rfl, hsz⟩ := okWide_struct Try.underlying25 hv
  obtain ⟨fuel, hf⟩ := h
  obtain ⟨xs, n, _, hd, _, hxl, hx⟩ := DataW.trod_struct Try.underlying25 hf
  have hc : Try.prog.cellsOf 25 = 12 := by kernel_rfl
  have c3 : Try.prog.cellsOf 3 = 1 := by kernel_rfl
  have c4 : Try.prog.cellsOf 4 = 1 := by kernel_rfl
  rw [hc] at hsz
  obtain ⟨l⟩ := cs
  match l, hsz, xs, hxl with
  | [a0, a1, a2, a3, a4, a5, a6, a7, a8, a9, a10, a11], _, [y0, y1, y2, y3, y4, y5, y6, y7, y8, y9, y10, y11], _ =>
    have g0 : DataW.trod enc Try.prog w 0 (fun _ => true) true n 3 (([a0, a1, a2, a3, a4, a5, a6, a7, a8, a9, a10, a11].drop 0).take (Try.prog.cellsOf 3)) = some y0 := hx 0 _ rfl
    rw [c3] at g0
    have g1 : DataW.trod enc Try.prog w 0 (fun _ => true) true n 3 (([a0, a1, a2, a3, a4, a5, a6, a7, a8, a9, a10, a11].drop 1).take (Try.prog.cellsOf 3)) = some y1 := hx 1 _ rfl
    rw [c3] at g1
    have g2 : DataW.trod enc Try.prog w 0 (fun _ => true) true n 4 (([a0, a1, a2, a3, a4, a5, a6, a7, a8, a9, a10, a11].drop 2).take (Try.prog.cellsOf 4)) = some y2 := hx 2 _ rfl
    rw [c4] at g2
    have g3 : DataW.trod enc Try.prog w 0 (fun _ => true) true n 3 (([a0, a1, a2, a3, a4, a5, a6, a7, a8, a9, a10, a11].drop 3).take (Try.prog.cellsOf 3)) = some y3 := hx 3 _ rfl
    rw [c3] at g3
    have g4 : DataW.trod enc Try.prog w 0 (fun _ => true) true n 3 (([a0, a1, a2, a3, a4, a5, a6, a7, a8, a9, a10, a11].drop 4).take (Try.prog.cellsOf 3)) = some y4 := hx 4 _ rfl
    rw [c3] at g4
    have g5 : DataW.trod enc Try.prog w 0 (fun _ => true) true n 4 (([a0, a1, a2, a3, a4, a5, a6, a7, a8, a9, a10, a11].drop 5).take (Try.prog.cellsOf 4)) = some y5 := hx 5 _ rfl
    rw [c4] at g5
    have g6 : DataW.trod enc Try.prog w 0 (fun _ => true) true n 4 (([a0, a1, a2, a3, a4, a5, a6, a7, a8, a9, a10, a11].drop 6).take (Try.prog.cellsOf 4)) = some y6 := hx 6 _ rfl
    rw [c4] at g6
    have g7 : DataW.trod enc Try.prog w 0 (fun _ => true) true n 4 (([a0, a1, a2, a3, a4, a5, a6, a7, a8, a9, a10, a11].drop 7).take (Try.prog.cellsOf 4)) = some y7 := hx 7 _ rfl
    rw [c4] at g7
    have g8 : DataW.trod enc Try.prog w 0 (fun _ => true) true n 3 (([a0, a1, a2, a3, a4, a5, a6, a7, a8, a9, a10, a11].drop 8).take (Try.prog.cellsOf 3)) = some y8 := hx 8 _ rfl
    rw [c3] at g8
    have g9 : DataW.trod enc Try.prog w 0 (fun _ => true) true n 3 (([a0, a1, a2, a3, a4, a5, a6, a7, a8, a9, a10, a11].drop 9).take (Try.prog.cellsOf 3)) = some y9 := hx 9 _ rfl
    rw [c3] at g9
    have g10 : DataW.trod enc Try.prog w 0 (fun _ => true) true n 3 (([a0, a1, a2, a3, a4, a5, a6, a7, a8, a9, a10, a11].drop 10).take (Try.prog.cellsOf 3)) = some y10 := hx 10 _ rfl
    rw [c3] at g10
    have g11 : DataW.trod enc Try.prog w 0 (fun _ => true) true n 4 (([a0, a1, a2, a3, a4, a5, a6, a7, a8, a9, a10, a11].drop 11).take (Try.prog.cellsOf 4)) = some y11 := hx 11 _ rfl
    rw [c4] at g11
    obtain ⟨z0, e0, _, w0⟩ := DataW.trod_int (k := .i64) Try.underlying3 g0
    obtain ⟨z1, e1, _, w1⟩ := DataW.trod_int (k := .i64) Try.underlying3 g1
    obtain ⟨z2, e2, _⟩ := DataW.trod_bool Try.underlying4 g2
    obtain ⟨z3, e3, _, w3⟩ := DataW.trod_int (k := .i64) Try.underlying3 g3
    obtain ⟨z4, e4, _, w4⟩ := DataW.trod_int (k := .i64) Try.underlying3 g4
    obtain ⟨z5, e5, _⟩ := DataW.trod_bool Try.underlying4 g5
    obtain ⟨z6, e6, _⟩ := DataW.trod_bool Try.underlying4 g6
    obtain ⟨z7, e7, _⟩ := DataW.trod_bool Try.underlying4 g7
    obtain ⟨z8, e8, _, w8⟩ := DataW.trod_int (k := .i64) Try.underlying3 g8
    obtain ⟨z9, e9, _, w9⟩ := DataW.trod_int (k := .i64) Try.underlying3 g9
    obtain ⟨z10, e10, _, w10⟩ := DataW.trod_int (k := .i64) Try.underlying3 g10
    obtain ⟨z11, e11, _⟩ := DataW.trod_bool Try.underlying4 g11
    simp at e0 e1 e2 e3 e4 e5 e6 e7 e8 e9 e10 e11
    subst e0; subst e1; subst e2; subst e3; subst e4; subst e5; subst e6; subst e7; subst e8; subst e9; subst e10; subst e11
    exact ⟨z0, z1, z2, z3, z4, z5, z6, z7, z8, z9, z10, z11, rfl, bounds_i64 w0, bounds_i64 w1, bounds_i64 w3, bounds_i64 w4, bounds_i64 w8, bounds_i64 w9, bounds_i64 w10⟩
theorem spot_none {w : World} {a : Addr} {v : Value} (h : w.cell? (a.add 0) = some v) : ∃ b o, a = ⟨b, o, none⟩ := by
  obtain ⟨b, o, spot⟩ := a
  have hs : spot = none := by simpa [Addr.add] using World.cell?_spot h
  subst hs
  exact ⟨b, o, rfl⟩
set_option maxRecDepth 100000 in
theorem rec_of {H : Type} {enc : TypeId × Value → H} {w : World} {fuel : Nat} {l : List Value} {y : DataW H × List MemPlace} (hl : l.length = 12) (hf : DataW.trod enc Try.prog w 0 (fun _ => true) true fuel 25 l = some y) : ∃ x : Rc, l = rv x := by
  obtain ⟨xs, n, _, hd, _, hxl, hx⟩ := DataW.trod_struct Try.underlying25 hf
  have c_int : Try.prog.cellsOf 3 = 1 := by kernel_rfl
  have c_bool : Try.prog.cellsOf 4 = 1 := by kernel_rfl
  match l, hl, xs, hxl with
  | [a0, a1, a2, a3, a4, a5, a6, a7, a8, a9, a10, a11], _, [y0, y1, y2, y3, y4, y5, y6, y7, y8, y9, y10, y11], _ =>
    have g0 : DataW.trod enc Try.prog w 0 (fun _ => true) true n 3 (([a0, a1, a2, a3, a4, a5, a6, a7, a8, a9, a10, a11].drop 0).take (Try.prog.cellsOf 3)) = some y0 := hx 0 _ rfl
    rw [c_int] at g0
    obtain ⟨z0, e0, _, w0⟩ := DataW.trod_int (k := .i64) Try.underlying3 g0
    have g1 : DataW.trod enc Try.prog w 0 (fun _ => true) true n 3 (([a0, a1, a2, a3, a4, a5, a6, a7, a8, a9, a10, a11].drop 1).take (Try.prog.cellsOf 3)) = some y1 := hx 1 _ rfl
    rw [c_int] at g1
    obtain ⟨z1, e1, _, w1⟩ := DataW.trod_int (k := .i64) Try.underlying3 g1
    have g2 : DataW.trod enc Try.prog w 0 (fun _ => true) true n 4 (([a0, a1, a2, a3, a4, a5, a6, a7, a8, a9, a10, a11].drop 2).take (Try.prog.cellsOf 4)) = some y2 := hx 2 _ rfl
    rw [c_bool] at g2
    obtain ⟨z2, e2, _⟩ := DataW.trod_bool Try.underlying4 g2
    have g3 : DataW.trod enc Try.prog w 0 (fun _ => true) true n 3 (([a0, a1, a2, a3, a4, a5, a6, a7, a8, a9, a10, a11].drop 3).take (Try.prog.cellsOf 3)) = some y3 := hx 3 _ rfl
    rw [c_int] at g3
    obtain ⟨z3, e3, _, w3⟩ := DataW.trod_int (k := .i64) Try.underlying3 g3
    have g4 : DataW.trod enc Try.prog w 0 (fun _ => true) true n 3 (([a0, a1, a2, a3, a4, a5, a6, a7, a8, a9, a10, a11].drop 4).take (Try.prog.cellsOf 3)) = some y4 := hx 4 _ rfl
    rw [c_int] at g4
    obtain ⟨z4, e4, _, w4⟩ := DataW.trod_int (k := .i64) Try.underlying3 g4
    have g5 : DataW.trod enc Try.prog w 0 (fun _ => true) true n 4 (([a0, a1, a2, a3, a4, a5, a6, a7, a8, a9, a10, a11].drop 5).take (Try.prog.cellsOf 4)) = some y5 := hx 5 _ rfl
    rw [c_bool] at g5
    obtain ⟨z5, e5, _⟩ := DataW.trod_bool Try.underlying4 g5
    have g6 : DataW.trod enc Try.prog w 0 (fun _ => true) true n 4 (([a0, a1, a2, a3, a4, a5, a6, a7, a8, a9, a10, a11].drop 6).take (Try.prog.cellsOf 4)) = some y6 := hx 6 _ rfl
    rw [c_bool] at g6
    obtain ⟨z6, e6, _⟩ := DataW.trod_bool Try.underlying4 g6
    have g7 : DataW.trod enc Try.prog w 0 (fun _ => true) true n 4 (([a0, a1, a2, a3, a4, a5, a6, a7, a8, a9, a10, a11].drop 7).take (Try.prog.cellsOf 4)) = some y7 := hx 7 _ rfl
    rw [c_bool] at g7
    obtain ⟨z7, e7, _⟩ := DataW.trod_bool Try.underlying4 g7
    have g8 : DataW.trod enc Try.prog w 0 (fun _ => true) true n 3 (([a0, a1, a2, a3, a4, a5, a6, a7, a8, a9, a10, a11].drop 8).take (Try.prog.cellsOf 3)) = some y8 := hx 8 _ rfl
    rw [c_int] at g8
    obtain ⟨z8, e8, _, w8⟩ := DataW.trod_int (k := .i64) Try.underlying3 g8
    have g9 : DataW.trod enc Try.prog w 0 (fun _ => true) true n 3 (([a0, a1, a2, a3, a4, a5, a6, a7, a8, a9, a10, a11].drop 9).take (Try.prog.cellsOf 3)) = some y9 := hx 9 _ rfl
    rw [c_int] at g9
    obtain ⟨z9, e9, _, w9⟩ := DataW.trod_int (k := .i64) Try.underlying3 g9
    have g10 : DataW.trod enc Try.prog w 0 (fun _ => true) true n 3 (([a0, a1, a2, a3, a4, a5, a6, a7, a8, a9, a10, a11].drop 10).take (Try.prog.cellsOf 3)) = some y10 := hx 10 _ rfl
    rw [c_int] at g10
    obtain ⟨z10, e10, _, w10⟩ := DataW.trod_int (k := .i64) Try.underlying3 g10
    have g11 : DataW.trod enc Try.prog w 0 (fun _ => true) true n 4 (([a0, a1, a2, a3, a4, a5, a6, a7, a8, a9, a10, a11].drop 11).take (Try.prog.cellsOf 4)) = some y11 := hx 11 _ rfl
    rw [c_bool] at g11
    obtain ⟨z11, e11, _⟩ := DataW.trod_bool Try.underlying4 g11
    simp at e0 e1 e2 e3 e4 e5 e6 e7 e8 e9 e10 e11
    subst e0; subst e1; subst e2; subst e3; subst e4; subst e5; subst e6; subst e7; subst e8; subst e9; subst e10; subst e11
    exact ⟨⟨z0, z1, z2, z3, z4, z5, z6, z7, z8, z9, z10, z11⟩, rfl⟩

theorem open_recs {H : Type} {enc : TypeId × Value → H} {w : World} {fuel : Nat} {v : Value} {d : DataW H} {p : List MemPlace} (h : DataW.trod enc Try.prog w 0 (fun _ => true) true fuel 46 [v] = some (d, p)) :
    ∃ a l c, v = .slice a l.length c ∧ RecsAt w a l ∧ (a = none → c = 0) ∧ (l = [] ∨ ∃ es sp, d = .slice es sp ∧ es.length = l.length) := by
  rcases Deep.open_slice Try.underlying46 h with ⟨hcs, _⟩ | ⟨y, len, cap, m, n, D, Pl, hcs, _, hl, hm, hmm, hx0, hx⟩
  · simp at hcs
    subst hcs
    exact ⟨none, [], 0, rfl, RecsAt.nil _ _, fun _ => rfl, .inl rfl⟩
  · simp at hcs hmm
    subst hcs
    have hc : Try.prog.cellsOf 25 = 12 := by kernel_rfl
    haveI : Inhabited Rc := ⟨rz⟩
    have each : ∀ i, i < len → ∃ x : Rc, ∀ j u, (rv x)[j]? = some u → w.cell? ((y.add (i * 12)).add j) = some u := fun i hi => by
      obtain ⟨cs', h1, h2⟩ := hx i (by omega)
      rw [hc] at h1
      obtain ⟨_, hlen, hcell⟩ := World.cells?_some h1
      obtain ⟨x, rfl⟩ := rec_of hlen h2
      refine ⟨x, fun j u hj => ?_⟩
      have hj12 : j < 12 := by
        rcases Nat.lt_or_ge j 12 with h | h
        · exact h
        · rw [List.getElem?_eq_none (by rw [rv_len]; exact h)] at hj; cases hj
      have := hcell j hj12
      rw [this]
      first | exact hj | (rw [← hj]; simp [rv_len, hj12])
    obtain ⟨X, hX⟩ := Deep.choose_lt (α := Rc) each
    refine ⟨some y, (List.range len).map X, cap, by simp, ⟨by simp; omega, fun j hj => ?_⟩, fun h => (by cases h), ?_⟩
    · have hj' : j < len := by simpa using hj
      obtain ⟨b, o, rfl⟩ := spot_none (w := w) (a := y) (v := .int .i64 (X 0).f) (by
        have := hX 0 (by omega) 0 _ rfl
        rw [Nat.zero_mul] at this
        have e : (y.add 0).add 0 = y.add 0 := by unfold Addr.add; split <;> simp_all
        rwa [e] at this)
      refine ⟨b, o, rfl, fun k v hk => ?_⟩
      have e : nth ((List.range len).map X) j = X j := by simp [nth, hj']
      rw [e] at hk
      have := hX j hj' k v hk
      rwa [add_lit, add_lit] at this
    · simp only [Prod.mk.injEq] at hx0
      exact .inr ⟨_, _, hx0.1, by simp⟩
theorem add_plain (b o k : Nat) : (⟨b, o, none⟩ : Addr).add k = ⟨b, o + k, none⟩ := by unfold Addr.add; split <;> simp_all
/-- The slice at A holds these numbers. -/
def IntsAt (w : World) (A : Option Addr) (xs : List Int) : Prop := ∀ j, j < xs.length → ∃ b o, A = some ⟨b, o, none⟩ ∧ w.cell? ⟨b, o + j, none⟩ = some (.int .i64 (xs[j]?.getD 0)) ∧ I64 (xs[j]?.getD 0)
theorem IntsAt.later {w w' : World} {A : Option Addr} {xs : List Int} (h : IntsAt w A xs) (hb : Below w.heap.size w w') : IntsAt w' A xs := fun j hj => by
  obtain ⟨b, o, e, hc, hi⟩ := h j hj
  exact ⟨b, o, e, (hb.cell (p := ⟨b, o + j, none⟩) (lt_of_cell hc)).trans hc, hi⟩
theorem open_nums {H : Type} {enc : TypeId × Value → H} {w : World} {fuel : Nat} {v : Value} {d : DataW H} {p : List MemPlace} (h : DataW.trod enc Try.prog w 0 (fun _ => true) true fuel 55 [v] = some (d, p)) :
    ∃ A xs c, v = .slice A xs.length c ∧ IntsAt w A xs ∧ xs.length ≤ 9223372036854775807 := by
  rcases open_ints Try.underlying55 Try.underlying3 (by kernel_rfl) h with ⟨hcs, _⟩ | ⟨x, l, c, zs, hcs, _, hl, hm, hz, hxe, hcell, hwz⟩
  · simp at hcs
    subst hcs
    exact ⟨none, [], 0, rfl, fun j hj => (by simp at hj), by simp⟩
  · simp at hcs hz
    subst hcs
    have hlen : (zs.take l).length = l := by simp; omega
    simp only [maxLen] at hm
    refine ⟨some x, zs.take l, c, by rw [hlen], fun j hj => ?_, by omega⟩
    rw [hlen] at hj
    obtain ⟨b, o, rfl⟩ := spot_none (by have := hcell 0 (by omega); exact this)
    have := hcell j (by omega)
    rw [add_plain] at this
    refine ⟨b, o, rfl, ?_, ?_⟩
    · rw [this, List.getElem?_take_of_lt hj]; rfl
    · rw [List.getElem?_take_of_lt hj]
      have hj2 : j < zs.length := by omega
      rw [List.getElem?_eq_getElem hj2]
      exact bounds_i64 (hwz _ (List.getElem_mem hj2))
theorem bytes25 : Try.prog.bytesOf 25 = 80 := by kernel_rfl
end Go.Proofs.Ytfkkpianlmpknaa
