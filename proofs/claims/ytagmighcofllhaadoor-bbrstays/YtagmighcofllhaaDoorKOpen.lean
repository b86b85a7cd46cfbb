/- Controllers, samples and numbers that came in; what the listed variable gives. -/
import Derived.Test.YtagmighcofllhaaDoorKHeads
import Derived.Test.YtagmighcofllhaaDoorTie
import Derived.Deep.SlicePairs
import Derived.SizedLaws
import Derived.MakeChecks
import Derived.LaidLaws
import Derived.Lay
import Derived.LaidMore
namespace Go.Proofs.YtagmighcofllhaaDoor
open Go.ChangeShapes Go.WideShapes Go.ChangeAt Go.RowKit
set_option linter.unusedVariables false
set_option linter.unusedSimpArgs false

open Fil
theorem bounds_i64 {a : Int} (h : (Lit.int .i64 a).wf = true) : I64 a := by
  simp [Lit.wf, IntKind.min, IntKind.max, IntKind.signed, IntKind.bits] at h; unfold I64; omega
theorem spot_none {w : World} {a : Addr} {v : Value} (h : w.cell? (a.add 0) = some v) : ∃ b o, a = ⟨b, o, none⟩ := by
  obtain ⟨b, o, spot⟩ := a
  have hs : spot = none := by simpa [Addr.add] using World.cell?_spot h
  subst hs
  exact ⟨b, o, rfl⟩


theorem weights_all {H : Type} {P : Program} {e : TypeId} {n : Nat} {d : DataW H} (hn : n ∈ d.weights P e) : ∀ {ds : List (DataW H)}, d ∈ ds → n ∈ DataW.weightsAll P e ds
  | [], h => by cases h
  | x :: r, h => by
    rw [DataW.weightsAll, List.mem_append]
    rcases List.mem_cons.1 h with rfl | h
    · exact .inl hn
    · exact .inr (weights_all hn h)
theorem sized_arg {H : Type} {P : Program} {ts : List TypeId} {ds : List (DataW H)} (h : (DataW.weightsEach P ts ds).all (· ≤ reachBytes) = true) {j : Nat} {t : TypeId} {d : DataW H} (ht : ts[j]? = some t) (hd : ds[j]? = some d) : ∀ n ∈ d.weights P t, n ≤ reachBytes := fun n hn => by
  have := List.all_eq_true.1 h _ (DataW.weights_mem_each ht hd n hn)
  simpa using this
theorem bytes61 : Tryd.prog.bytesOf 61 = 16 := by kernel_rfl
theorem open_tims {H : Type} {enc : TypeId × Value → H} {w : World} {fuel : Nat} {v : Value} {d : DataW H} {p : List MemPlace} (h : DataW.trod enc Tryd.prog w 0 (fun _ => true) true fuel 24 [v] = some (d, p)) (hw : ∀ n ∈ d.weights Tryd.prog 24, n ≤ reachBytes) :
    ∃ a l c, v = .slice a l.length c ∧ TimsAt w a l ∧ (a = none → c = 0) ∧ l.length ≤ c ∧ l.length * 16 ≤ 140737488351232 := by
  rcases Deep.open_slice_pairs Tryd.underlying24 Tryd.underlying61 (by kernel_rfl) rfl rfl (by kernel_rfl) (by kernel_rfl) h with ⟨hcs, _⟩ | ⟨y, len, cap, m, n, V0, V1, D0, D1, P0, P1, hcs, _, hl, hm, hmm, hx0, hx⟩
  · simp at hcs
    subst hcs
    exact ⟨none, [], 0, rfl, TimsAt.nil _ _, fun _ => rfl, Nat.le_refl _, by decide⟩
  · simp at hcs hmm
    subst hcs
    simp only [Prod.mk.injEq] at hx0
    obtain ⟨rfl, _⟩ := hx0
    have each : ∀ i, i < len → ∃ f t, V0 i = .int .i64 f ∧ V1 i = .int .i64 t := fun i hi => by
      obtain ⟨_, _, h0, h1⟩ := hx i (by omega)
      obtain ⟨f, e0, _, _⟩ := DataW.trod_int (k := .i64) Tryd.underlying3 h0
      obtain ⟨t, e1, _, _⟩ := DataW.trod_int (k := .i64) Tryd.underlying3 h1
      simp at e0 e1
      exact ⟨f, t, e0, e1⟩
    have hs := hw ((len + (cap - len)) * 16) (by
      simp only [DataW.weights, Tryd.underlying24, bytes61, List.length_map, List.length_range, hmm]
      exact List.mem_cons_self ..)
    simp only [reachBytes] at hs
    refine ⟨some y, (List.range len).map (fun i => (intOf (V0 i), intOf (V1 i))), cap, by simp, ⟨by simp; omega, fun j hj => ?_⟩, fun h => (by cases h), by simp; omega, by simp; omega⟩
    have hj' : j < len := by simpa using hj
    obtain ⟨f, t, e0, e1⟩ := each j hj'
    obtain ⟨q0, q1, _, _⟩ := hx j (by omega)
    obtain ⟨b, o, rfl⟩ := spot_none (by have := (hx 0 (by omega)).1; simpa using this)
    rw [Fil.add_plain] at q0 q1
    refine ⟨b, o, rfl, ?_, ?_⟩
    · rw [q0, e0]; simp [hj', e0, intOf]
    · rw [show o + j * 2 + 1 = o + (j * 2 + 1) from by omega, q1, e1]; simp [hj', e1, intOf]
set_option maxRecDepth 100000 in
theorem open_c8 {H : Type} {enc : TypeId × Value → H} {w : World} {base : Nat} {v : Value} {d : DataW H} {p : List MemPlace} (hv : Value.okWide Tryd.prog w .any base 26 v) (h : DataW.Trod enc Tryd.prog w 0 (fun _ => true) true 26 v d p) (hw : ∀ n ∈ d.weights Tryd.prog 26, n ≤ reachBytes) :
    ∃ (c : Cc) (es : List Tm), v = ccv c ∧ CcI c ∧ RowIn w c es := by
  obtain ⟨cs, rfl, hsz⟩ := okWide_struct Tryd.underlying26 hv
  obtain ⟨fuel, hf⟩ := h
  obtain ⟨xs, n, _, hd, _, hxl, hx⟩ := DataW.trod_struct Tryd.underlying26 hf
  have hc : Tryd.prog.cellsOf 26 = 22 := by kernel_rfl
  have c3 : Tryd.prog.cellsOf 3 = 1 := by kernel_rfl
  have c22 : Tryd.prog.cellsOf 22 = 1 := by kernel_rfl
  have c23 : Tryd.prog.cellsOf 23 = 1 := by kernel_rfl
  have c24 : Tryd.prog.cellsOf 24 = 1 := by kernel_rfl
  rw [hc] at hsz
  obtain ⟨l⟩ := cs
  match l, hsz, xs, hxl with
  | [a0, a1, a2, a3, a4, a5, a6, a7, a8, a9, a10, a11, a12, a13, a14, a15, a16, a17, a18, a19, a20, a21], _, [y0, y1, y2, y3, y4, y5, y6, y7, y8, y9, y10, y11, y12, y13, y14, y15, y16, y17, y18, y19, y20, y21], _ =>
    have hdd : d = .agg [y0.1, y1.1, y2.1, y3.1, y4.1, y5.1, y6.1, y7.1, y8.1, y9.1, y10.1, y11.1, y12.1, y13.1, y14.1, y15.1, y16.1, y17.1, y18.1, y19.1, y20.1, y21.1] := by simpa using congrArg Prod.fst hd
    have g0 : DataW.trod enc Tryd.prog w 0 (fun _ => true) true n 22 (([a0, a1, a2, a3, a4, a5, a6, a7, a8, a9, a10, a11, a12, a13, a14, a15, a16, a17, a18, a19, a20, a21].drop 0).take (Tryd.prog.cellsOf 22)) = some y0 := hx 0 _ rfl
    rw [c22] at g0
    obtain ⟨z0, e0, _, w0⟩ := DataW.trod_int (k := .i64) Tryd.underlying22 g0
    simp at e0
    have g1 : DataW.trod enc Tryd.prog w 0 (fun _ => true) true n 3 (([a0, a1, a2, a3, a4, a5, a6, a7, a8, a9, a10, a11, a12, a13, a14, a15, a16, a17, a18, a19, a20, a21].drop 1).take (Tryd.prog.cellsOf 3)) = some y1 := hx 1 _ rfl
    rw [c3] at g1
    obtain ⟨z1, e1, _, w1⟩ := DataW.trod_int (k := .i64) Tryd.underlying3 g1
    simp at e1
    have g2 : DataW.trod enc Tryd.prog w 0 (fun _ => true) true n 3 (([a0, a1, a2, a3, a4, a5, a6, a7, a8, a9, a10, a11, a12, a13, a14, a15, a16, a17, a18, a19, a20, a21].drop 2).take (Tryd.prog.cellsOf 3)) = some y2 := hx 2 _ rfl
    rw [c3] at g2
    obtain ⟨z2, e2, _, w2⟩ := DataW.trod_int (k := .i64) Tryd.underlying3 g2
    simp at e2
    have g3 : DataW.trod enc Tryd.prog w 0 (fun _ => true) true n 3 (([a0, a1, a2, a3, a4, a5, a6, a7, a8, a9, a10, a11, a12, a13, a14, a15, a16, a17, a18, a19, a20, a21].drop 3).take (Tryd.prog.cellsOf 3)) = some y3 := hx 3 _ rfl
    rw [c3] at g3
    obtain ⟨z3, e3, _, w3⟩ := DataW.trod_int (k := .i64) Tryd.underlying3 g3
    simp at e3
    have g4 : DataW.trod enc Tryd.prog w 0 (fun _ => true) true n 3 (([a0, a1, a2, a3, a4, a5, a6, a7, a8, a9, a10, a11, a12, a13, a14, a15, a16, a17, a18, a19, a20, a21].drop 4).take (Tryd.prog.cellsOf 3)) = some y4 := hx 4 _ rfl
    rw [c3] at g4
    obtain ⟨z4, e4, _, w4⟩ := DataW.trod_int (k := .i64) Tryd.underlying3 g4
    simp at e4
    have g5 : DataW.trod enc Tryd.prog w 0 (fun _ => true) true n 3 (([a0, a1, a2, a3, a4, a5, a6, a7, a8, a9, a10, a11, a12, a13, a14, a15, a16, a17, a18, a19, a20, a21].drop 5).take (Tryd.prog.cellsOf 3)) = some y5 := hx 5 _ rfl
    rw [c3] at g5
    obtain ⟨z5, e5, _, w5⟩ := DataW.trod_int (k := .i64) Tryd.underlying3 g5
    simp at e5
    have g6 : DataW.trod enc Tryd.prog w 0 (fun _ => true) true n 3 (([a0, a1, a2, a3, a4, a5, a6, a7, a8, a9, a10, a11, a12, a13, a14, a15, a16, a17, a18, a19, a20, a21].drop 6).take (Tryd.prog.cellsOf 3)) = some y6 := hx 6 _ rfl
    rw [c3] at g6
    obtain ⟨z6, e6, _, w6⟩ := DataW.trod_int (k := .i64) Tryd.underlying3 g6
    simp at e6
    have g7 : DataW.trod enc Tryd.prog w 0 (fun _ => true) true n 3 (([a0, a1, a2, a3, a4, a5, a6, a7, a8, a9, a10, a11, a12, a13, a14, a15, a16, a17, a18, a19, a20, a21].drop 7).take (Tryd.prog.cellsOf 3)) = some y7 := hx 7 _ rfl
    rw [c3] at g7
    obtain ⟨z7, e7, _, w7⟩ := DataW.trod_int (k := .i64) Tryd.underlying3 g7
    simp at e7
    have g8 : DataW.trod enc Tryd.prog w 0 (fun _ => true) true n 3 (([a0, a1, a2, a3, a4, a5, a6, a7, a8, a9, a10, a11, a12, a13, a14, a15, a16, a17, a18, a19, a20, a21].drop 8).take (Tryd.prog.cellsOf 3)) = some y8 := hx 8 _ rfl
    rw [c3] at g8
    obtain ⟨z8, e8, _, w8⟩ := DataW.trod_int (k := .i64) Tryd.underlying3 g8
    simp at e8
    have g9 : DataW.trod enc Tryd.prog w 0 (fun _ => true) true n 3 (([a0, a1, a2, a3, a4, a5, a6, a7, a8, a9, a10, a11, a12, a13, a14, a15, a16, a17, a18, a19, a20, a21].drop 9).take (Tryd.prog.cellsOf 3)) = some y9 := hx 9 _ rfl
    rw [c3] at g9
    obtain ⟨z9, e9, _, w9⟩ := DataW.trod_int (k := .i64) Tryd.underlying3 g9
    simp at e9
    have g10 : DataW.trod enc Tryd.prog w 0 (fun _ => true) true n 23 (([a0, a1, a2, a3, a4, a5, a6, a7, a8, a9, a10, a11, a12, a13, a14, a15, a16, a17, a18, a19, a20, a21].drop 10).take (Tryd.prog.cellsOf 23)) = some y10 := hx 10 _ rfl
    rw [c23] at g10
    obtain ⟨z10, e10, _, w10⟩ := DataW.trod_int (k := .i64) Tryd.underlying23 g10
    simp at e10
    have g11 : DataW.trod enc Tryd.prog w 0 (fun _ => true) true n 24 (([a0, a1, a2, a3, a4, a5, a6, a7, a8, a9, a10, a11, a12, a13, a14, a15, a16, a17, a18, a19, a20, a21].drop 11).take (Tryd.prog.cellsOf 24)) = some y11 := hx 11 _ rfl
    rw [c24] at g11
    have g11' : DataW.trod enc Tryd.prog w 0 (fun _ => true) true n 24 [a11] = some (y11.1, y11.2) := g11
    have hm11 : ∀ m ∈ y11.1.weights Tryd.prog 24, m ≤ reachBytes := fun m hm => hw m (by
      rw [hdd]
      simp only [DataW.weights, Tryd.underlying26]
      exact List.mem_append.2 (.inr (List.mem_append.2 (.inr (List.mem_append.2 (.inr (List.mem_append.2 (.inr (List.mem_append.2 (.inr (List.mem_append.2 (.inr (List.mem_append.2 (.inr (List.mem_append.2 (.inr (List.mem_append.2 (.inr (List.mem_append.2 (.inr (List.mem_append.2 (.inr (List.mem_append.2 (.inl hm))))))))))))))))))))))))
    obtain ⟨bA, es, bc, e11, hT, hnul, hcap, hz⟩ := open_tims g11' hm11
    have g12 : DataW.trod enc Tryd.prog w 0 (fun _ => true) true n 3 (([a0, a1, a2, a3, a4, a5, a6, a7, a8, a9, a10, a11, a12, a13, a14, a15, a16, a17, a18, a19, a20, a21].drop 12).take (Tryd.prog.cellsOf 3)) = some y12 := hx 12 _ rfl
    rw [c3] at g12
    obtain ⟨z12, e12, _, w12⟩ := DataW.trod_int (k := .i64) Tryd.underlying3 g12
    simp at e12
    have g13 : DataW.trod enc Tryd.prog w 0 (fun _ => true) true n 3 (([a0, a1, a2, a3, a4, a5, a6, a7, a8, a9, a10, a11, a12, a13, a14, a15, a16, a17, a18, a19, a20, a21].drop 13).take (Tryd.prog.cellsOf 3)) = some y13 := hx 13 _ rfl
    rw [c3] at g13
    obtain ⟨z13, e13, _, w13⟩ := DataW.trod_int (k := .i64) Tryd.underlying3 g13
    simp at e13
    have g14 : DataW.trod enc Tryd.prog w 0 (fun _ => true) true n 3 (([a0, a1, a2, a3, a4, a5, a6, a7, a8, a9, a10, a11, a12, a13, a14, a15, a16, a17, a18, a19, a20, a21].drop 14).take (Tryd.prog.cellsOf 3)) = some y14 := hx 14 _ rfl
    rw [c3] at g14
    obtain ⟨z14, e14, _, w14⟩ := DataW.trod_int (k := .i64) Tryd.underlying3 g14
    simp at e14
    have g15 : DataW.trod enc Tryd.prog w 0 (fun _ => true) true n 3 (([a0, a1, a2, a3, a4, a5, a6, a7, a8, a9, a10, a11, a12, a13, a14, a15, a16, a17, a18, a19, a20, a21].drop 15).take (Tryd.prog.cellsOf 3)) = some y15 := hx 15 _ rfl
    rw [c3] at g15
    obtain ⟨z15, e15, _, w15⟩ := DataW.trod_int (k := .i64) Tryd.underlying3 g15
    simp at e15
    have g16 : DataW.trod enc Tryd.prog w 0 (fun _ => true) true n 3 (([a0, a1, a2, a3, a4, a5, a6, a7, a8, a9, a10, a11, a12, a13, a14, a15, a16, a17, a18, a19, a20, a21].drop 16).take (Tryd.prog.cellsOf 3)) = some y16 := hx 16 _ rfl
    rw [c3] at g16
    obtain ⟨z16, e16, _, w16⟩ := DataW.trod_int (k := .i64) Tryd.underlying3 g16
    simp at e16
    have g17 : DataW.trod enc Tryd.prog w 0 (fun _ => true) true n 3 (([a0, a1, a2, a3, a4, a5, a6, a7, a8, a9, a10, a11, a12, a13, a14, a15, a16, a17, a18, a19, a20, a21].drop 17).take (Tryd.prog.cellsOf 3)) = some y17 := hx 17 _ rfl
    rw [c3] at g17
    obtain ⟨z17, e17, _, w17⟩ := DataW.trod_int (k := .i64) Tryd.underlying3 g17
    simp at e17
    have g18 : DataW.trod enc Tryd.prog w 0 (fun _ => true) true n 3 (([a0, a1, a2, a3, a4, a5, a6, a7, a8, a9, a10, a11, a12, a13, a14, a15, a16, a17, a18, a19, a20, a21].drop 18).take (Tryd.prog.cellsOf 3)) = some y18 := hx 18 _ rfl
    rw [c3] at g18
    obtain ⟨z18, e18, _, w18⟩ := DataW.trod_int (k := .i64) Tryd.underlying3 g18
    simp at e18
    have g19 : DataW.trod enc Tryd.prog w 0 (fun _ => true) true n 3 (([a0, a1, a2, a3, a4, a5, a6, a7, a8, a9, a10, a11, a12, a13, a14, a15, a16, a17, a18, a19, a20, a21].drop 19).take (Tryd.prog.cellsOf 3)) = some y19 := hx 19 _ rfl
    rw [c3] at g19
    obtain ⟨z19, e19, _, w19⟩ := DataW.trod_int (k := .i64) Tryd.underlying3 g19
    simp at e19
    have g20 : DataW.trod enc Tryd.prog w 0 (fun _ => true) true n 3 (([a0, a1, a2, a3, a4, a5, a6, a7, a8, a9, a10, a11, a12, a13, a14, a15, a16, a17, a18, a19, a20, a21].drop 20).take (Tryd.prog.cellsOf 3)) = some y20 := hx 20 _ rfl
    rw [c3] at g20
    obtain ⟨z20, e20, _, w20⟩ := DataW.trod_int (k := .i64) Tryd.underlying3 g20
    simp at e20
    have g21 : DataW.trod enc Tryd.prog w 0 (fun _ => true) true n 3 (([a0, a1, a2, a3, a4, a5, a6, a7, a8, a9, a10, a11, a12, a13, a14, a15, a16, a17, a18, a19, a20, a21].drop 21).take (Tryd.prog.cellsOf 3)) = some y21 := hx 21 _ rfl
    rw [c3] at g21
    obtain ⟨z21, e21, _, w21⟩ := DataW.trod_int (k := .i64) Tryd.underlying3 g21
    simp at e21
    subst e0; subst e1; subst e2; subst e3; subst e4; subst e5; subst e6; subst e7; subst e8; subst e9; subst e10; subst e11; subst e12; subst e13; subst e14; subst e15; subst e16; subst e17; subst e18; subst e19; subst e20; subst e21
    have hbn := hT.1
    have hbn2 : es.length ≤ 9223372036854775807 := by omega
    exact ⟨⟨z0, z1, z2, z3, z4, z5, z6, z7, z8, z9, z10, bA, es.length, bc, z12, z13, z14, z15, z16, z17, z18, z19, z20, z21⟩, es, rfl, ⟨bounds_i64 w0, bounds_i64 w1, bounds_i64 w2, bounds_i64 w3, bounds_i64 w4, bounds_i64 w5, bounds_i64 w6, bounds_i64 w7, bounds_i64 w8, bounds_i64 w9, bounds_i64 w10, bounds_i64 w12, bounds_i64 w13, bounds_i64 w14, bounds_i64 w15, bounds_i64 w16, bounds_i64 w17, bounds_i64 w18, bounds_i64 w19, bounds_i64 w20, bounds_i64 w21, hbn2⟩, ⟨hT, rfl, hcap, hnul, hz⟩⟩
theorem open_sm0 {H : Type} {enc : TypeId × Value → H} {w : World} {base : Nat} {v : Value} {d : DataW H} {p : List MemPlace} (hv : Value.okWide Tryd.prog w .any base 28 v) (h : DataW.Trod enc Tryd.prog w 0 (fun _ => true) true 28 v d p) :
    ∃ z0 z1 z2 z3 z4 z5 z6 z7, v = .agg #[.int .i64 z0, .int .i64 z1, .int .i64 z2, .int .i64 z3, .bool z4, .int .i64 z5, .int .i64 z6, .int .i64 z7] ∧ I64 z0 ∧ I64 z1 ∧ I64 z2 ∧ I64 z3 ∧ I64 z5 ∧ I64 z6 ∧ I64 z7 := by
  obtain ⟨cs, rfl, hsz⟩ := okWide_struct Tryd.underlying28 hv
  obtain ⟨fuel, hf⟩ := h
  obtain ⟨xs, n, _, hd, _, hxl, hx⟩ := DataW.trod_struct Tryd.underlying28 hf
  have hc : Tryd.prog.cellsOf 28 = 8 := by kernel_rfl
  have c3 : Tryd.prog.cellsOf 3 = 1 := by kernel_rfl
  have c4 : Tryd.prog.cellsOf 4 = 1 := by kernel_rfl
  rw [hc] at hsz
  obtain ⟨l⟩ := cs
  match l, hsz, xs, hxl with
  | [a0, a1, a2, a3, a4, a5, a6, a7], _, [y0, y1, y2, y3, y4, y5, y6, y7], _ =>
    have g0 : DataW.trod enc Tryd.prog w 0 (fun _ => true) true n 3 (([a0, a1, a2, a3, a4, a5, a6, a7].drop 0).take (Tryd.prog.cellsOf 3)) = some y0 := hx 0 _ rfl
    rw [c3] at g0
    have g1 : DataW.trod enc Tryd.prog w 0 (fun _ => true) true n 3 (([a0, a1, a2, a3, a4, a5, a6, a7].drop 1).take (Tryd.prog.cellsOf 3)) = some y1 := hx 1 _ rfl
    rw [c3] at g1
    have g2 : DataW.trod enc Tryd.prog w 0 (fun _ => true) true n 3 (([a0, a1, a2, a3, a4, a5, a6, a7].drop 2).take (Tryd.prog.cellsOf 3)) = some y2 := hx 2 _ rfl
    rw [c3] at g2
    have g3 : DataW.trod enc Tryd.prog w 0 (fun _ => true) true n 3 (([a0, a1, a2, a3, a4, a5, a6, a7].drop 3).take (Tryd.prog.cellsOf 3)) = some y3 := hx 3 _ rfl
    rw [c3] at g3
    have g4 : DataW.trod enc Tryd.prog w 0 (fun _ => true) true n 4 (([a0, a1, a2, a3, a4, a5, a6, a7].drop 4).take (Tryd.prog.cellsOf 4)) = some y4 := hx 4 _ rfl
    rw [c4] at g4
    have g5 : DataW.trod enc Tryd.prog w 0 (fun _ => true) true n 3 (([a0, a1, a2, a3, a4, a5, a6, a7].drop 5).take (Tryd.prog.cellsOf 3)) = some y5 := hx 5 _ rfl
    rw [c3] at g5
    have g6 : DataW.trod enc Tryd.prog w 0 (fun _ => true) true n 3 (([a0, a1, a2, a3, a4, a5, a6, a7].drop 6).take (Tryd.prog.cellsOf 3)) = some y6 := hx 6 _ rfl
    rw [c3] at g6
    have g7 : DataW.trod enc Tryd.prog w 0 (fun _ => true) true n 3 (([a0, a1, a2, a3, a4, a5, a6, a7].drop 7).take (Tryd.prog.cellsOf 3)) = some y7 := hx 7 _ rfl
    rw [c3] at g7
    obtain ⟨z0, e0, _, w0⟩ := DataW.trod_int (k := .i64) Tryd.underlying3 g0
    obtain ⟨z1, e1, _, w1⟩ := DataW.trod_int (k := .i64) Tryd.underlying3 g1
    obtain ⟨z2, e2, _, w2⟩ := DataW.trod_int (k := .i64) Tryd.underlying3 g2
    obtain ⟨z3, e3, _, w3⟩ := DataW.trod_int (k := .i64) Tryd.underlying3 g3
    obtain ⟨z4, e4, _⟩ := DataW.trod_bool Tryd.underlying4 g4
    obtain ⟨z5, e5, _, w5⟩ := DataW.trod_int (k := .i64) Tryd.underlying3 g5
    obtain ⟨z6, e6, _, w6⟩ := DataW.trod_int (k := .i64) Tryd.underlying3 g6
    obtain ⟨z7, e7, _, w7⟩ := DataW.trod_int (k := .i64) Tryd.underlying3 g7
    simp at e0 e1 e2 e3 e4 e5 e6 e7
    subst e0; subst e1; subst e2; subst e3; subst e4; subst e5; subst e6; subst e7
    exact ⟨z0, z1, z2, z3, z4, z5, z6, z7, rfl, bounds_i64 w0, bounds_i64 w1, bounds_i64 w2, bounds_i64 w3, bounds_i64 w5, bounds_i64 w6, bounds_i64 w7⟩

theorem open_sm8 {H : Type} {enc : TypeId × Value → H} {w : World} {base : Nat} {v : Value} {d : DataW H} {p : List MemPlace} (hv : Value.okWide Tryd.prog w .any base 28 v) (h : DataW.Trod enc Tryd.prog w 0 (fun _ => true) true 28 v d p) : ∃ s : Sm, v = agv (smL s) ∧ SmI s := by
  obtain ⟨z0, z1, z2, z3, z4, z5, z6, z7, rfl, h0, h1, h2, h3, h5, h6, h7⟩ := open_sm0 hv h
  exact ⟨⟨z0, z1, z2, z3, z4, z5, z6, z7⟩, rfl, ⟨h0, h1, h2, h3, h5, h6, h7⟩⟩

theorem Tryd.own : ownKnob Tryd.prog.godebug = none := by kernel_rfl
theorem Tryd.laidOut : laidOutB Tryd.prog = true := by kernel_rfl
theorem Tryd.g0 : Tryd.prog.globalNamed "tideway/bbr.phaseGains" = some 0 := by kernel_rfl
theorem Tryd.gT : (Tryd.prog.globals[0]?).map (·.type) = some 85 := by kernel_rfl
/-- The listed variable. -/
abbrev laid1 : List (String × DataW Unit) := [("tideway/bbr.phaseGains", Rows.laid_tideway_bbr_phaseGains)]
set_option maxRecDepth 100000 in
theorem gains_var {W : World} (h : laidMetH Tryd.prog laid1 W) : W.var? Tryd.prog "tideway/bbr.phaseGains" = some #[.int .i64 125, .int .i64 75, .int .i64 100, .int .i64 100, .int .i64 100, .int .i64 100, .int .i64 100, .int .i64 100] := by
  rw [MakeChecks.laidMetH_plain _ _ _ (by kernel_rfl)] at h
  obtain ⟨ps, ⟨g, t, cs, fuel, p, q, hg, ht, hv, hd, _, _⟩, _, _⟩ := h
  obtain rfl := Option.some.inj (Tryd.g0.symm.trans hg)
  obtain rfl := Option.some.inj (Tryd.gT.symm.trans ht)
  have c3 : Tryd.prog.cellsOf 3 = 1 := by kernel_rfl
  have c85 : Tryd.prog.cellsOf 85 = 8 := by kernel_rfl
  obtain ⟨xs, m, _, ex, hlen, hl, hel⟩ := DataW.trod_array Tryd.underlying85 hd
  rw [c85] at hlen
  obtain ⟨l⟩ := cs
  match l, hlen with
  | [a0, a1, a2, a3, a4, a5, a6, a7], _ =>
    match xs, hl with
    | [x0, x1, x2, x3, x4, x5, x6, x7], _ =>
      have e3 := (DataW.agg.inj (Prod.mk.inj ex).1)
      simp only [List.map_cons, List.map_nil, List.cons.injEq, and_true] at e3
      have k0 := hel 0 (by omega)
      have k1 := hel 1 (by omega)
      have k2 := hel 2 (by omega)
      have k3 := hel 3 (by omega)
      have k4 := hel 4 (by omega)
      have k5 := hel 5 (by omega)
      have k6 := hel 6 (by omega)
      have k7 := hel 7 (by omega)
      rw [c3] at k0 k1 k2 k3 k4 k5 k6 k7
      obtain ⟨z0, b0, d0, _⟩ := DataW.trod_int Tryd.underlying3 k0
      obtain ⟨z1, b1, d1, _⟩ := DataW.trod_int Tryd.underlying3 k1
      obtain ⟨z2, b2, d2, _⟩ := DataW.trod_int Tryd.underlying3 k2
      obtain ⟨z3, b3, d3, _⟩ := DataW.trod_int Tryd.underlying3 k3
      obtain ⟨z4, b4, d4, _⟩ := DataW.trod_int Tryd.underlying3 k4
      obtain ⟨z5, b5, d5, _⟩ := DataW.trod_int Tryd.underlying3 k5
      obtain ⟨z6, b6, d6, _⟩ := DataW.trod_int Tryd.underlying3 k6
      obtain ⟨z7, b7, d7, _⟩ := DataW.trod_int Tryd.underlying3 k7
      rw [hv]
      simp_all
      omega
theorem gains_of_laid {W : World} (h : laidMetH Tryd.prog laid1 W) : G8 W := by
  have hcell := fun j => World.var?_cell Tryd.g0 (gains_var h) j
  refine ⟨?_, fun j v hj => ?_⟩
  · exact Fil.lt_of_cell (p := ⟨0, 0, none⟩) (hcell 0)
  · rw [hcell]
    match j, hj with
    | 0, hj | 1, hj | 2, hj | 3, hj | 4, hj | 5, hj | 6, hj | 7, hj => cases hj; rfl
    | j + 8, hj => simp [gains] at hj
end Go.Proofs.YtagmighcofllhaaDoor
