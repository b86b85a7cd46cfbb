/- Samplers, records and rows that came in. -/
import Derived.Test.YtdgiapeniafklaaBase
import Derived.Deep.SlicePairs
import Derived.Deep.Slices
import Derived.ProofKit
import Derived.OpenShut
import Derived.SizedLaws
namespace Go.Proofs.Ytdgiapeniafklaa
open Go.ChangeShapes Go.WideShapes Go.ChangeAt Go.RowKit Go.Shelf
set_option linter.unusedVariables false
set_option linter.unusedSimpArgs false
attribute [local go_sem] Oper.semAt_some

theorem bounds_i64 {a : Int} (h : (Lit.int .i64 a).wf = true) : I64 a := by
  simp [Lit.wf, IntKind.min, IntKind.max, IntKind.signed, IntKind.bits] at h; unfold I64; omega
theorem open_rt4 {H : Type} {enc : TypeId × Value → H} {w : World} {base : Nat} {v : Value} {d : DataW H} {p : List MemPlace} (hv : Value.okWide Try.prog w .any base 23 v) (h : DataW.Trod enc Try.prog w 0 (fun _ => true) true 23 v d p) :
    ∃ z0 z1 z2 z3, v = .agg #[.int .i64 z0, .int .i64 z1, .int .i64 z2, .int .i64 z3] ∧ I64 z0 ∧ I64 z1 ∧ I64 z2 ∧ I64 z3 := by
  obtain ⟨cs, rfl, hsz⟩ := okWide_struct Try.underlying23 hv
  obtain ⟨fuel, hf⟩ := h
  obtain ⟨xs, n, _, hd, _, hxl, hx⟩ := DataW.trod_struct Try.underlying23 hf
  have hc : Try.prog.cellsOf 23 = 4 := by kernel_rfl
  have c3 : Try.prog.cellsOf 3 = 1 := by kernel_rfl
  rw [hc] at hsz
  obtain ⟨l⟩ := cs
  match l, hsz, xs, hxl with
  | [a0, a1, a2, a3], _, [y0, y1, y2, y3], _ =>
    have g0 : DataW.trod enc Try.prog w 0 (fun _ => true) true n 3 (([a0, a1, a2, a3].drop 0).take (Try.prog.cellsOf 3)) = some y0 := hx 0 _ rfl
    rw [c3] at g0
    have g1 : DataW.trod enc Try.prog w 0 (fun _ => true) true n 3 (([a0, a1, a2, a3].drop 1).take (Try.prog.cellsOf 3)) = some y1 := hx 1 _ rfl
    rw [c3] at g1
    have g2 : DataW.trod enc Try.prog w 0 (fun _ => true) true n 3 (([a0, a1, a2, a3].drop 2).take (Try.prog.cellsOf 3)) = some y2 := hx 2 _ rfl
    rw [c3] at g2
    have g3 : DataW.trod enc Try.prog w 0 (fun _ => true) true n 3 (([a0, a1, a2, a3].drop 3).take (Try.prog.cellsOf 3)) = some y3 := hx 3 _ rfl
    rw [c3] at g3
    obtain ⟨z0, e0, _, w0⟩ := DataW.trod_int (k := .i64) Try.underlying3 g0
    obtain ⟨z1, e1, _, w1⟩ := DataW.trod_int (k := .i64) Try.underlying3 g1
    obtain ⟨z2, e2, _, w2⟩ := DataW.trod_int (k := .i64) Try.underlying3 g2
    obtain ⟨z3, e3, _, w3⟩ := DataW.trod_int (k := .i64) Try.underlying3 g3
    simp at e0 e1 e2 e3
    subst e0; subst e1; subst e2; subst e3
    exact ⟨z0, z1, z2, z3, rfl, bounds_i64 w0, bounds_i64 w1, bounds_i64 w2, bounds_i64 w3⟩
theorem spot_none {w : World} {a : Addr} {v : Value} (h : w.cell? (a.add 0) = some v) : ∃ b o, a = ⟨b, o, none⟩ := by
  obtain ⟨b, o, spot⟩ := a
  have hs : spot = none := by simpa [Addr.add] using World.cell?_spot h
  subst hs
  exact ⟨b, o, rfl⟩
set_option maxRecDepth 100000 in
theorem rec_of {H : Type} {enc : TypeId × Value → H} {w : World} {fuel : Nat} {l : List Value} {y : DataW H × List MemPlace} (hl : l.length = 12) (hf : DataW.trod enc Try.prog w 0 (fun _ => true) true fuel 33 l = some y) : ∃ x : Rc, l = rcL x ∧ RcI x := by
  obtain ⟨xs, n, _, hd, _, hxl, hx⟩ := DataW.trod_struct Try.underlying33 hf
  have c_int : Try.prog.cellsOf 3 = 1 := by kernel_rfl
  have c_bool : Try.prog.cellsOf 4 = 1 := by kernel_rfl
  match l, hl, xs, hxl with
  | [a0, a1, a2, a3, a4, a5, a6, a7, a8, a9, a10, a11], _, [y0, y1, y2, y3, y4, y5, y6, y7, y8, y9, y10, y11], _ =>
    have g0 : DataW.trod enc Try.prog w 0 (fun _ => true) true n 3 (([a0, a1, a2, a3, a4, a5, a6, a7, a8, a9, a10, a11].drop 0).take (Try.prog.cellsOf 3)) = some y0 := hx 0 _ rfl
    rw [c_int] at g0
    obtain ⟨z0, e0, _, w0⟩ := DataW.trod_int (k := .i64) Try.underlying3 g0
    have g1 : DataW.trod enc Try.prog w 0 (fun _ => true) true n 3 (([a0, a1, a2, a3, a4, a5, a6, a7, a8, a9, a10, a11].drop 1).take (Try.prog.cellsOf 3)) = some y1 := hx 1 _ rfl
    rw [c_int] at g1
    obtain ⟨z1, e1, _, w1⟩ := DataW.trod_int (k := .i64) Try.underlying3 g1
    have g2 : DataW.trod enc Try.prog w 0 (fun _ => true) true n 4 (([a0, a1, a2, a3, a4, a5, a6, a7, a8, a9, a10, a11].drop 2).take (Try.prog.cellsOf 4)) = some y2 := hx 2 _ rfl
    rw [c_bool] at g2
    obtain ⟨z2, e2, _⟩ := DataW.trod_bool Try.underlying4 g2
    have g3 : DataW.trod enc Try.prog w 0 (fun _ => true) true n 3 (([a0, a1, a2, a3, a4, a5, a6, a7, a8, a9, a10, a11].drop 3).take (Try.prog.cellsOf 3)) = some y3 := hx 3 _ rfl
    rw [c_int] at g3
    obtain ⟨z3, e3, _, w3⟩ := DataW.trod_int (k := .i64) Try.underlying3 g3
    have g4 : DataW.trod enc Try.prog w 0 (fun _ => true) true n 3 (([a0, a1, a2, a3, a4, a5, a6, a7, a8, a9, a10, a11].drop 4).take (Try.prog.cellsOf 3)) = some y4 := hx 4 _ rfl
    rw [c_int] at g4
    obtain ⟨z4, e4, _, w4⟩ := DataW.trod_int (k := .i64) Try.underlying3 g4
    have g5 : DataW.trod enc Try.prog w 0 (fun _ => true) true n 4 (([a0, a1, a2, a3, a4, a5, a6, a7, a8, a9, a10, a11].drop 5).take (Try.prog.cellsOf 4)) = some y5 := hx 5 _ rfl
    rw [c_bool] at g5
    obtain ⟨z5, e5, _⟩ := DataW.trod_bool Try.underlying4 g5
    have g6 : DataW.trod enc Try.prog w 0 (fun _ => true) true n 4 (([a0, a1, a2, a3, a4, a5, a6, a7, a8, a9, a10, a11].drop 6).take (Try.prog.cellsOf 4)) = some y6 := hx 6 _ rfl
    rw [c_bool] at g6
    obtain ⟨z6, e6, _⟩ := DataW.trod_bool Try.underlying4 g6
    have g7 : DataW.trod enc Try.prog w 0 (fun _ => true) true n 4 (([a0, a1, a2, a3, a4, a5, a6, a7, a8, a9, a10, a11].drop 7).take (Try.prog.cellsOf 4)) = some y7 := hx 7 _ rfl
    rw [c_bool] at g7
    obtain ⟨z7, e7, _⟩ := DataW.trod_bool Try.underlying4 g7
    have g8 : DataW.trod enc Try.prog w 0 (fun _ => true) true n 3 (([a0, a1, a2, a3, a4, a5, a6, a7, a8, a9, a10, a11].drop 8).take (Try.prog.cellsOf 3)) = some y8 := hx 8 _ rfl
    rw [c_int] at g8
    obtain ⟨z8, e8, _, w8⟩ := DataW.trod_int (k := .i64) Try.underlying3 g8
    have g9 : DataW.trod enc Try.prog w 0 (fun _ => true) true n 3 (([a0, a1, a2, a3, a4, a5, a6, a7, a8, a9, a10, a11].drop 9).take (Try.prog.cellsOf 3)) = some y9 := hx 9 _ rfl
    rw [c_int] at g9
    obtain ⟨z9, e9, _, w9⟩ := DataW.trod_int (k := .i64) Try.underlying3 g9
    have g10 : DataW.trod enc Try.prog w 0 (fun _ => true) true n 3 (([a0, a1, a2, a3, a4, a5, a6, a7, a8, a9, a10, a11].drop 10).take (Try.prog.cellsOf 3)) = some y10 := hx 10 _ rfl
    rw [c_int] at g10
    obtain ⟨z10, e10, _, w10⟩ := DataW.trod_int (k := .i64) Try.underlying3 g10
    have g11 : DataW.trod enc Try.prog w 0 (fun _ => true) true n 4 (([a0, a1, a2, a3, a4, a5, a6, a7, a8, a9, a10, a11].drop 11).take (Try.prog.cellsOf 4)) = some y11 := hx 11 _ rfl
    rw [c_bool] at g11
    obtain ⟨z11, e11, _⟩ := DataW.trod_bool Try.underlying4 g11
    simp at e0 e1 e2 e3 e4 e5 e6 e7 e8 e9 e10 e11
    subst e0; subst e1; subst e2; subst e3; subst e4; subst e5; subst e6; subst e7; subst e8; subst e9; subst e10; subst e11
    exact ⟨⟨z0, z1, z2, z3, z4, z5, z6, z7, z8, z9, z10, z11⟩, rfl, ⟨bounds_i64 w0, bounds_i64 w1, bounds_i64 w3, bounds_i64 w4, bounds_i64 w8, bounds_i64 w9, bounds_i64 w10⟩⟩

theorem open_recs {H : Type} {enc : TypeId × Value → H} {w : World} {fuel : Nat} {v : Value} {d : DataW H} {p : List MemPlace} (h : DataW.trod enc Try.prog w 0 (fun _ => true) true fuel 24 [v] = some (d, p)) :
    ∃ a l c, v = .slice a l.length c ∧ RecsAt w a l ∧ (∀ x ∈ l, RcI x) ∧ (l = [] ∨ ∃ es sp, d = .slice es sp ∧ es.length = l.length) := by
  rcases Deep.open_slice Try.underlying24 h with ⟨hcs, _⟩ | ⟨y, len, cap, m, n, D, Pl, hcs, _, hl, hm, hmm, hx0, hx⟩
  · simp at hcs
    subst hcs
    exact ⟨none, [], 0, rfl, RecsAt.nil _ _, fun x hx => by simp at hx, .inl rfl⟩
  · simp at hcs hmm
    subst hcs
    have hc : Try.prog.cellsOf 33 = 12 := by kernel_rfl
    haveI : Inhabited Rc := ⟨rcZ⟩
    have each : ∀ i, i < len → ∃ x : Rc, RcI x ∧ ∀ j u, (rcL x)[j]? = some u → w.cell? ((y.add (i * 12)).add j) = some u := fun i hi => by
      obtain ⟨cs', h1, h2⟩ := hx i (by omega)
      rw [hc] at h1
      obtain ⟨_, hlen, hcell⟩ := World.cells?_some h1
      obtain ⟨x, rfl, hxi⟩ := rec_of hlen h2
      refine ⟨x, hxi, fun j u hj => ?_⟩
      have hj12 : j < 12 := by
        rcases Nat.lt_or_ge j 12 with h | h
        · exact h
        · rw [List.getElem?_eq_none (by rw [rv_len]; exact h)] at hj; cases hj
      have := hcell j hj12
      rw [this]
      first | exact hj | (rw [← hj]; simp [rv_len, hj12])
    obtain ⟨X, hX⟩ := Deep.choose_lt (α := Rc) each
    refine ⟨some y, (List.range len).map X, cap, by simp, ⟨by simp; omega, fun j hj => ?_⟩, fun x hx => (by simp at hx; obtain ⟨k, hk, rfl⟩ := hx; exact (hX k hk).1), ?_⟩
    · have hj' : j < len := by simpa using hj
      obtain ⟨b, o, rfl⟩ := spot_none (w := w) (a := y) (v := .int .i64 (X 0).f) (by
        have := (hX 0 (by omega)).2 0 _ rfl
        rw [Nat.zero_mul] at this
        have e : (y.add 0).add 0 = y.add 0 := by unfold Addr.add; split <;> simp_all
        rwa [e] at this)
      refine ⟨b, o, rfl, fun k v hk => ?_⟩
      have e : nth ((List.range len).map X) j = X j := by simp [nth, hj']
      rw [e] at hk
      have := (hX j hj').2 k v hk
      rwa [add_lit, add_lit] at this
    · simp only [Prod.mk.injEq] at hx0
      exact .inr ⟨_, _, hx0.1, by simp⟩

theorem open_rate {H : Type} {enc : TypeId × Value → H} {w : World} {base : Nat} {v : Value} {d : DataW H} {p : List MemPlace} (hv : Value.okWide Try.prog w .any base 23 v) (h : DataW.Trod enc Try.prog w 0 (fun _ => true) true 23 v d p) : ∃ q : Rt, v = agv (rtL q) ∧ RtI q := by
  obtain ⟨z0, z1, z2, z3, rfl, h0, h1, h2, h3⟩ := open_rt4 hv h
  exact ⟨⟨z0, z1, z2, z3⟩, rfl, ⟨h0, h1, h2, h3⟩⟩
theorem open_rcv {H : Type} {enc : TypeId × Value → H} {w : World} {base : Nat} {v : Value} {d : DataW H} {p : List MemPlace} (hv : Value.okWide Try.prog w .any base 33 v) (h : DataW.Trod enc Try.prog w 0 (fun _ => true) true 33 v d p) : ∃ x : Rc, v = agv (rcL x) ∧ RcI x := by
  obtain ⟨cs, rfl, hsz⟩ := okWide_struct Try.underlying33 hv
  obtain ⟨fuel, hf⟩ := h
  have hc : Try.prog.cellsOf 33 = 12 := by kernel_rfl
  rw [hc] at hsz
  obtain ⟨l⟩ := cs
  obtain ⟨x, rfl, hx⟩ := rec_of (l := l) (by simpa using hsz) hf
  exact ⟨x, rfl, hx⟩
end Go.Proofs.Ytdgiapeniafklaa
