/- What a sender knows, segments, bytes and numbers that came in. -/
import Derived.Test.YtdodagpkkjpdiaaABase
import Derived.Deep.SlicePairs
import Derived.SizedLaws
namespace Go.Proofs.Ytdodagpkkjpdiaa
open Go.ChangeShapes Go.WideShapes Go.ChangeAt Go.RowKit Go.Shelf
set_option linter.unusedVariables false
set_option linter.unusedSimpArgs false

theorem spot_none {w : World} {a : Addr} {v : Value} (h : w.cell? (a.add 0) = some v) : ∃ b o, a = ⟨b, o, none⟩ := by
  obtain ⟨b, o, spot⟩ := a
  have hs : spot = none := by simpa [Addr.add] using World.cell?_spot h
  subst hs
  exact ⟨b, o, rfl⟩
theorem bounds_u8 {a : Int} (h : (Lit.int .u8 a).wf = true) : 0 ≤ a ∧ a ≤ 255 := by
  simp [Lit.wf, IntKind.min, IntKind.max, IntKind.signed, IntKind.bits] at h; omega
theorem bounds_i64 {a : Int} (h : (Lit.int .i64 a).wf = true) : I64 a := by
  simp [Lit.wf, IntKind.min, IntKind.max, IntKind.signed, IntKind.bits] at h; unfold I64; omega
theorem bytes5 : Try.prog.bytesOf 5 = 1 := by kernel_rfl
theorem weights_all {H : Type} {P : Program} {e : TypeId} {n : Nat} {d : DataW H} (hn : n ∈ d.weights P e) : ∀ {ds : List (DataW H)}, d ∈ ds → n ∈ DataW.weightsAll P e ds
  | [], h => by cases h
  | x :: r, h => by
    rw [DataW.weightsAll, List.mem_append]
    rcases List.mem_cons.1 h with rfl | h
    · exact .inl hn
    · exact .inr (weights_all hn h)
theorem open_byts {H : Type} {enc : TypeId × Value → H} {w : World} {fuel : Nat} {v : Value} {d : DataW H} {p : List MemPlace} (h : DataW.trod enc Try.prog w 0 (fun _ => true) true fuel 26 [v] = some (d, p)) (hw : ∀ n ∈ d.weights Try.prog 26, n ≤ reachBytes) :
    ∃ a bs c, v = .slice a bs.length c ∧ SlAt w a c bs := by
  rcases open_ints Try.underlying26 Try.underlying5 (by kernel_rfl) h with ⟨hcs, _⟩ | ⟨x, l, c, zs, hcs, _, hl, hm, hz, hxe, hcell, hwz⟩
  · simp at hcs
    subst hcs
    exact ⟨none, [], 0, rfl, SlAt.nil _⟩
  · simp at hcs hz
    subst hcs
    simp only [Prod.mk.injEq] at hxe
    obtain ⟨rfl, _⟩ := hxe
    have hs := hw ((l + (zs.length - l)) * 1) (by
      simp only [DataW.weights, Try.underlying26, bytes5, lits, List.length_map, List.length_take, List.length_drop]
      rw [Nat.min_eq_left (by omega)]
      exact List.mem_cons_self ..)
    simp only [reachBytes] at hs
    have hlen : (zs.take l).length = l := by simp; omega
    refine ⟨some x, zs.take l, c, by rw [hlen], ⟨by omega, fun y hy => bounds_u8 (hwz y (List.mem_of_mem_take hy)), fun j hj => ?_⟩, fun h => (by cases h), by omega⟩
    rw [hlen] at hj
    obtain ⟨b, o, rfl⟩ := spot_none (by have := hcell 0 (by omega); exact this)
    refine ⟨b, o, rfl, ?_⟩
    have := hcell j (by omega)
    rw [add_plain] at this
    rw [this, List.getElem?_take_of_lt hj]
    rfl
theorem bounds_u32 {a : Int} (h : (Lit.int .u32 a).wf = true) : U32 a := by
  simp [Lit.wf, IntKind.min, IntKind.max, IntKind.signed, IntKind.bits] at h; unfold U32; omega
theorem bytesBl : Try.prog.bytesOf 41 = 8 := by kernel_rfl
theorem open_blks {H : Type} {enc : TypeId × Value → H} {w : World} {fuel : Nat} {v : Value} {d : DataW H} {p : List MemPlace} (h : DataW.trod enc Try.prog w 0 (fun _ => true) true fuel 25 [v] = some (d, p)) (hw : ∀ n ∈ d.weights Try.prog 25, n ≤ reachBytes) :
    ∃ a l c, v = .slice a l.length c ∧ BlksAt w a l ∧ l.length * 16 ≤ 281474976710656 := by
  rcases Deep.open_slice_pairs Try.underlying25 Try.underlying41 (by kernel_rfl) rfl rfl (by kernel_rfl) (by kernel_rfl) h with ⟨hcs, _⟩ | ⟨y, len, cap, m, n, V0, V1, D0, D1, P0, P1, hcs, _, hl, hm, hmm, hx0, hx⟩
  · simp at hcs
    subst hcs
    exact ⟨none, [], 0, rfl, BlksAt.nil _ _, by simp⟩
  · simp at hcs hmm
    subst hcs
    simp only [Prod.mk.injEq] at hx0
    obtain ⟨rfl, _⟩ := hx0
    have each : ∀ i, i < len → ∃ f t, V0 i = .int .u32 f ∧ V1 i = .int .u32 t := fun i hi => by
      obtain ⟨_, _, h0, h1⟩ := hx i (by omega)
      obtain ⟨f, e0, _, _⟩ := DataW.trod_int (k := .u32) Try.underlying22 h0
      obtain ⟨t, e1, _, _⟩ := DataW.trod_int (k := .u32) Try.underlying22 h1
      simp at e0 e1
      exact ⟨f, t, e0, e1⟩
    have hs := hw ((len + (cap - len)) * 8) (by
      simp only [DataW.weights, Try.underlying25, bytesBl, List.length_map, List.length_range, hmm]
      exact List.mem_cons_self ..)
    simp only [reachBytes] at hs
    refine ⟨some y, (List.range len).map (fun i => (intOf (V0 i), intOf (V1 i))), cap, by simp, ⟨by simp; omega, fun j hj => ?_⟩, by simp; omega⟩
    have hj' : j < len := by simpa using hj
    obtain ⟨f, t, e0, e1⟩ := each j hj'
    obtain ⟨q0, q1, _, _⟩ := hx j (by omega)
    obtain ⟨b, o, rfl⟩ := spot_none (by have := (hx 0 (by omega)).1; simpa using this)
    rw [add_plain] at q0 q1
    refine ⟨b, o, rfl, ?_, ?_⟩
    · rw [q0, e0]; simp [hj', e0, intOf]
    · rw [show o + j * 2 + 1 = o + (j * 2 + 1) from by omega, q1, e1]; simp [hj', e1, intOf]
set_option maxRecDepth 100000 in
theorem open_sgm {H : Type} {enc : TypeId × Value → H} {w : World} {base : Nat} {v : Value} {d : DataW H} {p : List MemPlace} (hv : Value.okWide Try.prog w .any base 28 v) (h : DataW.Trod enc Try.prog w 0 (fun _ => true) true 28 v d p) (hw : ∀ n ∈ d.weights Try.prog 28, n ≤ reachBytes) :
    ∃ (s : Seg) (k : Hs), v = agv (sgL s k) ∧ BlksAt w k.ka s.sk ∧ s.sk.length * 16 ≤ 281474976710656 := by
  obtain ⟨cs, rfl, hsz⟩ := okWide_struct Try.underlying28 hv
  obtain ⟨fuel, hf⟩ := h
  obtain ⟨xs, n, _, hd, _, hxl, hx⟩ := DataW.trod_struct Try.underlying28 hf
  have hc : Try.prog.cellsOf 28 = 15 := by kernel_rfl
  rw [hc] at hsz
  obtain ⟨l⟩ := cs
  have c_Blocks : Try.prog.cellsOf 25 = 1 := by kernel_rfl
  have c_bool : Try.prog.cellsOf 4 = 1 := by kernel_rfl
  have c_bytes : Try.prog.cellsOf 26 = 1 := by kernel_rfl
  have c_int : Try.prog.cellsOf 3 = 1 := by kernel_rfl
  have c_u32 : Try.prog.cellsOf 22 = 1 := by kernel_rfl
  match l, hsz, xs, hxl with
  | [a0, a1, a2, a3, a4, a5, a6, a7, a8, a9, a10, a11, a12, a13, a14], _, [y0, y1, y2, y3, y4, y5, y6, y7, y8, y9, y10, y11, y12, y13, y14], _ =>
    have hdd : d = .agg [y0.1, y1.1, y2.1, y3.1, y4.1, y5.1, y6.1, y7.1, y8.1, y9.1, y10.1, y11.1, y12.1, y13.1, y14.1] := by simpa using congrArg Prod.fst hd
    have g0 : DataW.trod enc Try.prog w 0 (fun _ => true) true n 3 (([a0, a1, a2, a3, a4, a5, a6, a7, a8, a9, a10, a11, a12, a13, a14].drop 0).take (Try.prog.cellsOf 3)) = some y0 := hx 0 _ rfl
    rw [c_int] at g0
    obtain ⟨z0, e0, _, w0⟩ := DataW.trod_int (k := .i64) Try.underlying3 g0
    have g1 : DataW.trod enc Try.prog w 0 (fun _ => true) true n 3 (([a0, a1, a2, a3, a4, a5, a6, a7, a8, a9, a10, a11, a12, a13, a14].drop 1).take (Try.prog.cellsOf 3)) = some y1 := hx 1 _ rfl
    rw [c_int] at g1
    obtain ⟨z1, e1, _, w1⟩ := DataW.trod_int (k := .i64) Try.underlying3 g1
    have g2 : DataW.trod enc Try.prog w 0 (fun _ => true) true n 22 (([a0, a1, a2, a3, a4, a5, a6, a7, a8, a9, a10, a11, a12, a13, a14].drop 2).take (Try.prog.cellsOf 22)) = some y2 := hx 2 _ rfl
    rw [c_u32] at g2
    obtain ⟨z2, e2, _, w2⟩ := DataW.trod_int (k := .u32) Try.underlying22 g2
    have g3 : DataW.trod enc Try.prog w 0 (fun _ => true) true n 22 (([a0, a1, a2, a3, a4, a5, a6, a7, a8, a9, a10, a11, a12, a13, a14].drop 3).take (Try.prog.cellsOf 22)) = some y3 := hx 3 _ rfl
    rw [c_u32] at g3
    obtain ⟨z3, e3, _, w3⟩ := DataW.trod_int (k := .u32) Try.underlying22 g3
    have g4 : DataW.trod enc Try.prog w 0 (fun _ => true) true n 3 (([a0, a1, a2, a3, a4, a5, a6, a7, a8, a9, a10, a11, a12, a13, a14].drop 4).take (Try.prog.cellsOf 3)) = some y4 := hx 4 _ rfl
    rw [c_int] at g4
    obtain ⟨z4, e4, _, w4⟩ := DataW.trod_int (k := .i64) Try.underlying3 g4
    have g5 : DataW.trod enc Try.prog w 0 (fun _ => true) true n 3 (([a0, a1, a2, a3, a4, a5, a6, a7, a8, a9, a10, a11, a12, a13, a14].drop 5).take (Try.prog.cellsOf 3)) = some y5 := hx 5 _ rfl
    rw [c_int] at g5
    obtain ⟨z5, e5, _, w5⟩ := DataW.trod_int (k := .i64) Try.underlying3 g5
    have g6 : DataW.trod enc Try.prog w 0 (fun _ => true) true n 3 (([a0, a1, a2, a3, a4, a5, a6, a7, a8, a9, a10, a11, a12, a13, a14].drop 6).take (Try.prog.cellsOf 3)) = some y6 := hx 6 _ rfl
    rw [c_int] at g6
    obtain ⟨z6, e6, _, w6⟩ := DataW.trod_int (k := .i64) Try.underlying3 g6
    have g7 : DataW.trod enc Try.prog w 0 (fun _ => true) true n 3 (([a0, a1, a2, a3, a4, a5, a6, a7, a8, a9, a10, a11, a12, a13, a14].drop 7).take (Try.prog.cellsOf 3)) = some y7 := hx 7 _ rfl
    rw [c_int] at g7
    obtain ⟨z7, e7, _, w7⟩ := DataW.trod_int (k := .i64) Try.underlying3 g7
    have g8 : DataW.trod enc Try.prog w 0 (fun _ => true) true n 3 (([a0, a1, a2, a3, a4, a5, a6, a7, a8, a9, a10, a11, a12, a13, a14].drop 8).take (Try.prog.cellsOf 3)) = some y8 := hx 8 _ rfl
    rw [c_int] at g8
    obtain ⟨z8, e8, _, w8⟩ := DataW.trod_int (k := .i64) Try.underlying3 g8
    have g9 : DataW.trod enc Try.prog w 0 (fun _ => true) true n 4 (([a0, a1, a2, a3, a4, a5, a6, a7, a8, a9, a10, a11, a12, a13, a14].drop 9).take (Try.prog.cellsOf 4)) = some y9 := hx 9 _ rfl
    rw [c_bool] at g9
    obtain ⟨z9, e9, _⟩ := DataW.trod_bool Try.underlying4 g9
    have g10 : DataW.trod enc Try.prog w 0 (fun _ => true) true n 4 (([a0, a1, a2, a3, a4, a5, a6, a7, a8, a9, a10, a11, a12, a13, a14].drop 10).take (Try.prog.cellsOf 4)) = some y10 := hx 10 _ rfl
    rw [c_bool] at g10
    obtain ⟨z10, e10, _⟩ := DataW.trod_bool Try.underlying4 g10
    have g11 : DataW.trod enc Try.prog w 0 (fun _ => true) true n 22 (([a0, a1, a2, a3, a4, a5, a6, a7, a8, a9, a10, a11, a12, a13, a14].drop 11).take (Try.prog.cellsOf 22)) = some y11 := hx 11 _ rfl
    rw [c_u32] at g11
    obtain ⟨z11, e11, _, w11⟩ := DataW.trod_int (k := .u32) Try.underlying22 g11
    have g12 : DataW.trod enc Try.prog w 0 (fun _ => true) true n 22 (([a0, a1, a2, a3, a4, a5, a6, a7, a8, a9, a10, a11, a12, a13, a14].drop 12).take (Try.prog.cellsOf 22)) = some y12 := hx 12 _ rfl
    rw [c_u32] at g12
    obtain ⟨z12, e12, _, w12⟩ := DataW.trod_int (k := .u32) Try.underlying22 g12
    have g13 : DataW.trod enc Try.prog w 0 (fun _ => true) true n 25 (([a0, a1, a2, a3, a4, a5, a6, a7, a8, a9, a10, a11, a12, a13, a14].drop 13).take (Try.prog.cellsOf 25)) = some y13 := hx 13 _ rfl
    rw [c_Blocks] at g13
    have g13' : DataW.trod enc Try.prog w 0 (fun _ => true) true n 25 [a13] = some (y13.1, y13.2) := g13
    have hm13 : ∀ m ∈ y13.1.weights Try.prog 25, m ≤ reachBytes := fun m hm => hw m (by
      rw [hdd]
      simp only [DataW.weights, Try.underlying28]
      exact List.mem_append.2 (.inr (List.mem_append.2 (.inr (List.mem_append.2 (.inr (List.mem_append.2 (.inr (List.mem_append.2 (.inr (List.mem_append.2 (.inr (List.mem_append.2 (.inr (List.mem_append.2 (.inr (List.mem_append.2 (.inr (List.mem_append.2 (.inr (List.mem_append.2 (.inr (List.mem_append.2 (.inr (List.mem_append.2 (.inr (List.mem_append.2 (.inl hm))))))))))))))))))))))))))))
    obtain ⟨s13, z13, q13, e13, hS13, hr13⟩ := open_blks g13' hm13
    have g14 : DataW.trod enc Try.prog w 0 (fun _ => true) true n 26 (([a0, a1, a2, a3, a4, a5, a6, a7, a8, a9, a10, a11, a12, a13, a14].drop 14).take (Try.prog.cellsOf 26)) = some y14 := hx 14 _ rfl
    rw [c_bytes] at g14
    have g14' : DataW.trod enc Try.prog w 0 (fun _ => true) true n 26 [a14] = some (y14.1, y14.2) := g14
    have hm14 : ∀ m ∈ y14.1.weights Try.prog 26, m ≤ reachBytes := fun m hm => hw m (by
      rw [hdd]
      simp only [DataW.weights, Try.underlying28]
      exact List.mem_append.2 (.inr (List.mem_append.2 (.inr (List.mem_append.2 (.inr (List.mem_append.2 (.inr (List.mem_append.2 (.inr (List.mem_append.2 (.inr (List.mem_append.2 (.inr (List.mem_append.2 (.inr (List.mem_append.2 (.inr (List.mem_append.2 (.inr (List.mem_append.2 (.inr (List.mem_append.2 (.inr (List.mem_append.2 (.inr (List.mem_append.2 (.inr (List.mem_append.2 (.inl hm))))))))))))))))))))))))))))))
    obtain ⟨s14, z14, q14, e14, hS14⟩ := open_byts g14' hm14
    simp at e0 e1 e2 e3 e4 e5 e6 e7 e8 e9 e10 e11 e12
    subst e0; subst e1; subst e2; subst e3; subst e4; subst e5; subst e6; subst e7; subst e8; subst e9; subst e10; subst e11; subst e12; subst e13; subst e14
    exact ⟨⟨z0, z1, z2, z3, z4, z5, z6, z7, z8, z9, z10, z11, z12, z13, z14⟩, ⟨s13, q13, s14, q14⟩, rfl, hS13, hr13⟩
set_option maxRecDepth 100000 in
theorem open_ask {H : Type} {enc : TypeId × Value → H} {w : World} {base : Nat} {v : Value} {d : DataW H} {p : List MemPlace} (hv : Value.okWide Try.prog w .any base 24 v) (h : DataW.Trod enc Try.prog w 0 (fun _ => true) true 24 v d p) :
    ∃ a : Ak.As, v = agv (asL a) ∧ AsI a := by
  obtain ⟨cs, rfl, hsz⟩ := okWide_struct Try.underlying24 hv
  obtain ⟨fuel, hf⟩ := h
  obtain ⟨xs, n, _, hd, _, hxl, hx⟩ := DataW.trod_struct Try.underlying24 hf
  have hc : Try.prog.cellsOf 24 = 9 := by kernel_rfl
  rw [hc] at hsz
  obtain ⟨l⟩ := cs
  have c_bool : Try.prog.cellsOf 4 = 1 := by kernel_rfl
  have c_int : Try.prog.cellsOf 3 = 1 := by kernel_rfl
  have c_u32 : Try.prog.cellsOf 22 = 1 := by kernel_rfl
  match l, hsz, xs, hxl with
  | [a0, a1, a2, a3, a4, a5, a6, a7, a8], _, [y0, y1, y2, y3, y4, y5, y6, y7, y8], _ =>
    have g0 : DataW.trod enc Try.prog w 0 (fun _ => true) true n 3 (([a0, a1, a2, a3, a4, a5, a6, a7, a8].drop 0).take (Try.prog.cellsOf 3)) = some y0 := hx 0 _ rfl
    rw [c_int] at g0
    obtain ⟨z0, e0, _, w0⟩ := DataW.trod_int (k := .i64) Try.underlying3 g0
    have g1 : DataW.trod enc Try.prog w 0 (fun _ => true) true n 3 (([a0, a1, a2, a3, a4, a5, a6, a7, a8].drop 1).take (Try.prog.cellsOf 3)) = some y1 := hx 1 _ rfl
    rw [c_int] at g1
    obtain ⟨z1, e1, _, w1⟩ := DataW.trod_int (k := .i64) Try.underlying3 g1
    have g2 : DataW.trod enc Try.prog w 0 (fun _ => true) true n 22 (([a0, a1, a2, a3, a4, a5, a6, a7, a8].drop 2).take (Try.prog.cellsOf 22)) = some y2 := hx 2 _ rfl
    rw [c_u32] at g2
    obtain ⟨z2, e2, _, w2⟩ := DataW.trod_int (k := .u32) Try.underlying22 g2
    have g3 : DataW.trod enc Try.prog w 0 (fun _ => true) true n 3 (([a0, a1, a2, a3, a4, a5, a6, a7, a8].drop 3).take (Try.prog.cellsOf 3)) = some y3 := hx 3 _ rfl
    rw [c_int] at g3
    obtain ⟨z3, e3, _, w3⟩ := DataW.trod_int (k := .i64) Try.underlying3 g3
    have g4 : DataW.trod enc Try.prog w 0 (fun _ => true) true n 22 (([a0, a1, a2, a3, a4, a5, a6, a7, a8].drop 4).take (Try.prog.cellsOf 22)) = some y4 := hx 4 _ rfl
    rw [c_u32] at g4
    obtain ⟨z4, e4, _, w4⟩ := DataW.trod_int (k := .u32) Try.underlying22 g4
    have g5 : DataW.trod enc Try.prog w 0 (fun _ => true) true n 4 (([a0, a1, a2, a3, a4, a5, a6, a7, a8].drop 5).take (Try.prog.cellsOf 4)) = some y5 := hx 5 _ rfl
    rw [c_bool] at g5
    obtain ⟨z5, e5, _⟩ := DataW.trod_bool Try.underlying4 g5
    have g6 : DataW.trod enc Try.prog w 0 (fun _ => true) true n 22 (([a0, a1, a2, a3, a4, a5, a6, a7, a8].drop 6).take (Try.prog.cellsOf 22)) = some y6 := hx 6 _ rfl
    rw [c_u32] at g6
    obtain ⟨z6, e6, _, w6⟩ := DataW.trod_int (k := .u32) Try.underlying22 g6
    have g7 : DataW.trod enc Try.prog w 0 (fun _ => true) true n 22 (([a0, a1, a2, a3, a4, a5, a6, a7, a8].drop 7).take (Try.prog.cellsOf 22)) = some y7 := hx 7 _ rfl
    rw [c_u32] at g7
    obtain ⟨z7, e7, _, w7⟩ := DataW.trod_int (k := .u32) Try.underlying22 g7
    have g8 : DataW.trod enc Try.prog w 0 (fun _ => true) true n 4 (([a0, a1, a2, a3, a4, a5, a6, a7, a8].drop 8).take (Try.prog.cellsOf 4)) = some y8 := hx 8 _ rfl
    rw [c_bool] at g8
    obtain ⟨z8, e8, _⟩ := DataW.trod_bool Try.underlying4 g8
    simp at e0 e1 e2 e3 e4 e5 e6 e7 e8
    subst e0; subst e1; subst e2; subst e3; subst e4; subst e5; subst e6; subst e7; subst e8
    exact ⟨⟨z0, z1, z2, z3, z4, z5, z6, z7, z8⟩, rfl, { una := bounds_i64 w0, nxt := bounds_i64 w1, iss := bounds_u32 w2, per := bounds_i64 w3, irs := bounds_u32 w4, rcn := bounds_u32 w6, now := bounds_u32 w7 }⟩
theorem sized_arg {H : Type} {P : Program} {ts : List TypeId} {ds : List (DataW H)} (h : (DataW.weightsEach P ts ds).all (· ≤ reachBytes) = true) {j : Nat} {t : TypeId} {d : DataW H} (ht : ts[j]? = some t) (hd : ds[j]? = some d) : ∀ n ∈ d.weights P t, n ≤ reachBytes := fun n hn => by
  have := List.all_eq_true.1 h _ (DataW.weights_mem_each ht hd n hn)
  simpa using this
/-- The slice at A holds these numbers. -/
def IntsAt (w : World) (A : Option Addr) (xs : List Int) : Prop := ∀ j, j < xs.length → ∃ b o, A = some ⟨b, o, none⟩ ∧ w.cell? ⟨b, o + j, none⟩ = some (.int .i64 (xs[j]?.getD 0)) ∧ I64 (xs[j]?.getD 0)
theorem IntsAt.later {w w' : World} {A : Option Addr} {xs : List Int} (h : IntsAt w A xs) (hb : Below w.heap.size w w') : IntsAt w' A xs := fun j hj => by
  obtain ⟨b, o, e, hc, hi⟩ := h j hj
  exact ⟨b, o, e, (hb.cell (p := ⟨b, o + j, none⟩) (lt_of_cell hc)).trans hc, hi⟩
theorem open_nums {H : Type} {enc : TypeId × Value → H} {w : World} {fuel : Nat} {v : Value} {d : DataW H} {p : List MemPlace} (h : DataW.trod enc Try.prog w 0 (fun _ => true) true fuel 43 [v] = some (d, p)) :
    ∃ A xs c, v = .slice A xs.length c ∧ IntsAt w A xs ∧ xs.length ≤ 9223372036854775807 := by
  rcases open_ints Try.underlying43 Try.underlying3 (by kernel_rfl) h with ⟨hcs, _⟩ | ⟨x, l, c, zs, hcs, _, hl, hm, hz, hxe, hcell, hwz⟩
  · simp at hcs
    subst hcs
    exact ⟨none, [], 0, rfl, fun j hj => (by simp at hj), by simp⟩
  · simp at hcs hz
    subst hcs
    have hlen : (zs.take l).length = l := by simp; omega
    simp only [maxLen] at hm
    refine ⟨some x, zs.take l, c, by rw [hlen], fun j hj => ?_, by omega⟩
    rw [hlen] at hj
    obtain ⟨b, o, rfl⟩ := spot_none (by have := hcell 0 (by omega); exact this)
    have := hcell j (by omega)
    rw [add_plain] at this
    refine ⟨b, o, rfl, ?_, ?_⟩
    · rw [this, List.getElem?_take_of_lt hj]; rfl
    · rw [List.getElem?_take_of_lt hj]
      have hj2 : j < zs.length := by omega
      rw [List.getElem?_eq_getElem hj2]
      exact bounds_i64 (hwz _ (List.getElem_mem hj2))
end Go.Proofs.Ytdodagpkkjpdiaa
