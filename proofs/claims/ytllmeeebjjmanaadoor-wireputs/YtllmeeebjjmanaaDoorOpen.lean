/- A segment that came in: its value, its fields, what its slices hold. -/
import Derived.Test.YtllmeeebjjmanaaDoorPut
import Derived.Deep.SlicePairs
import Derived.ProofKit
import Derived.OpenShut
import Derived.ShutString
import Derived.ChangeOld
import Derived.SizedLaws
import Derived.Lay
import Derived.LaidHandle
import Derived.Handed
import Derived.Stop.LaidErr
import Derived.Stop.Joined
import Derived.SevenTiedAt
namespace Go.Proofs.YtllmeeebjjmanaaDoor
open Go.ChangeShapes Go.WideShapes Go.ChangeAt Go.RowKit Go.Shelf
set_option linter.unusedVariables false

theorem list15 {α : Type} (l : List α) (h : l.length = 15) : ∃ a0 a1 a2 a3 a4 a5 a6 a7 a8 a9 a10 a11 a12 a13 a14, l = [a0, a1, a2, a3, a4, a5, a6, a7, a8, a9, a10, a11, a12, a13, a14] := by
  rcases l with _ | ⟨a0, l⟩
  · simp at h
  rcases l with _ | ⟨a1, l⟩
  · simp at h
  rcases l with _ | ⟨a2, l⟩
  · simp at h
  rcases l with _ | ⟨a3, l⟩
  · simp at h
  rcases l with _ | ⟨a4, l⟩
  · simp at h
  rcases l with _ | ⟨a5, l⟩
  · simp at h
  rcases l with _ | ⟨a6, l⟩
  · simp at h
  rcases l with _ | ⟨a7, l⟩
  · simp at h
  rcases l with _ | ⟨a8, l⟩
  · simp at h
  rcases l with _ | ⟨a9, l⟩
  · simp at h
  rcases l with _ | ⟨a10, l⟩
  · simp at h
  rcases l with _ | ⟨a11, l⟩
  · simp at h
  rcases l with _ | ⟨a12, l⟩
  · simp at h
  rcases l with _ | ⟨a13, l⟩
  · simp at h
  rcases l with _ | ⟨a14, l⟩
  · simp at h
  rcases l with _ | ⟨x, l⟩
  · exact ⟨_, _, _, _, _, _, _, _, _, _, _, _, _, _, _, rfl⟩
  · simp at h

theorem spot_none {w : World} {a : Addr} {v : Value} (h : w.cell? (a.add 0) = some v) : ∃ b o, a = ⟨b, o, none⟩ := by
  obtain ⟨b, o, spot⟩ := a
  have hs : spot = none := by simpa [Addr.add] using World.cell?_spot h
  subst hs
  exact ⟨b, o, rfl⟩
theorem add_plain (b o k : Nat) : (⟨b, o, none⟩ : Addr).add k = ⟨b, o + k, none⟩ := by unfold Addr.add; split <;> simp_all

theorem open_bytes {H : Type} {enc : TypeId × Value → H} {w : World} {fuel : Nat} {v : Value} {x : DataW H × List MemPlace} (h : DataW.trod enc Tryd.prog w 0 (fun _ => true) true fuel 24 [v] = some x) :
    ∃ a bs c, v = .slice a bs.length c ∧ BytesAt w a bs ∧ (a = none → c = 0) ∧ (a = none → bs = []) ∧ bs.length ≤ c := by
  rcases open_ints Tryd.underlying24 Tryd.underlying5 (by kernel_rfl) h with ⟨hcs, _⟩ | ⟨y, l, c, zs, hcs, _, hl, hm, hz, _, hcell, hwz⟩
  · simp at hcs
    subst hcs
    exact ⟨none, [], 0, rfl, ⟨by decide, (by intro x hx; cases hx), fun j hj => by simp at hj⟩, fun _ => rfl, fun _ => rfl, by simp⟩
  · simp at hcs hz
    subst hcs
    have hlen : (zs.take l).length = l := by simp; omega
    refine ⟨some y, zs.take l, c, by rw [hlen], ⟨by rw [hlen]; omega, ?_, fun j hj => ?_⟩, fun h => (by cases h), fun h => (by cases h), by omega⟩
    · intro n hn
      have := hwz n (List.mem_of_mem_take hn)
      simp [Lit.wf, IntKind.min, IntKind.max, IntKind.signed, IntKind.bits] at this; omega
    · rw [hlen] at hj
      have hc := hcell j (by omega)
      obtain ⟨b, o, rfl⟩ := spot_none (hcell 0 (by omega))
      rw [add_plain] at hc
      refine ⟨b, o, rfl, ?_⟩
      rw [hc, List.getElem?_take_of_lt hj]
      simp

theorem open_blks {H : Type} {enc : TypeId × Value → H} {w : World} {fuel : Nat} {v : Value} {x : DataW H × List MemPlace} (h : DataW.trod enc Tryd.prog w 0 (fun _ => true) true fuel 23 [v] = some x) :
    ∃ a l c, v = .slice a l.length c ∧ BlksAt w a l := by
  rcases Deep.open_slice_pairs Tryd.underlying23 Tryd.underlying63 (by kernel_rfl) rfl rfl (by kernel_rfl) (by kernel_rfl) h with ⟨hcs, _⟩ | ⟨y, len, cap, m, n, V0, V1, D0, D1, P0, P1, hcs, _, hl, hm, hmm, _, hx⟩
  · simp at hcs
    subst hcs
    exact ⟨none, [], 0, rfl, by decide, (by intro x hx; cases hx), fun j hj => by simp at hj⟩
  · simp at hcs hmm
    subst hcs
    have each : ∀ i, i < len → ∃ f t, V0 i = .int .u32 f ∧ V1 i = .int .u32 t ∧ U32 f ∧ U32 t := fun i hi => by
      obtain ⟨_, _, h0, h1⟩ := hx i (by omega)
      obtain ⟨f, e0, _, w0⟩ := DataW.trod_int (k := .u32) Tryd.underlying22 h0
      obtain ⟨t, e1, _, w1⟩ := DataW.trod_int (k := .u32) Tryd.underlying22 h1
      simp at e0 e1
      exact ⟨f, t, e0, e1, bounds_u32 w0, bounds_u32 w1⟩
    refine ⟨some y, (List.range len).map (fun i => (intOf (V0 i), intOf (V1 i))), cap, by simp, by simp; omega, ?_, fun j hj => ?_⟩
    · intro b hb
      obtain ⟨i, hi, rfl⟩ := List.mem_map.1 hb
      obtain ⟨f, t, e0, e1, u0, u1⟩ := each i (List.mem_range.1 hi)
      rw [e0, e1]
      exact ⟨u0, u1⟩
    · have hj' : j < len := by simpa using hj
      obtain ⟨f, t, e0, e1, u0, u1⟩ := each j hj'
      obtain ⟨q0, q1, _, _⟩ := hx j (by omega)
      obtain ⟨b, o, rfl⟩ := spot_none (by have := (hx 0 (by omega)).1; simpa using this)
      rw [add_plain] at q0 q1
      refine ⟨b, o, rfl, ?_, ?_⟩
      · rw [q0, e0]; simp [hj', e0, intOf]
      · rw [show o + j * 2 + 1 = o + (j * 2 + 1) from by omega, q1, e1]; simp [hj', e1, intOf]

set_option maxRecDepth 100000 in
theorem open_seg {H : Type} {enc : TypeId × Value → H} {w : World} {base : Nat} {v : Value} {d : DataW H} {p : List MemPlace} (hv : Value.okWide Tryd.prog w .any base 26 v) (h : DataW.Trod enc Tryd.prog w 0 (fun _ => true) true 26 v d p) :
    ∃ s ka kc da dc, v = .agg (segV s ka kc da dc) ∧ SegIn w s ka da ∧ (da = none → dc = 0) := by
  obtain ⟨cs, rfl, hsz⟩ := okWide_struct Tryd.underlying26 hv
  obtain ⟨fuel, hf⟩ := h
  obtain ⟨xs, n, _, _, _, hxl, hx⟩ := DataW.trod_struct Tryd.underlying26 hf
  have hc15 : Tryd.prog.cellsOf 26 = 15 := by kernel_rfl
  rw [hc15] at hsz
  obtain ⟨l⟩ := cs
  obtain ⟨a0, a1, a2, a3, a4, a5, a6, a7, a8, a9, a10, a11, a12, a13, a14, rfl⟩ := list15 l (by simpa using hsz)
  obtain ⟨y0, y1, y2, y3, y4, y5, y6, y7, y8, y9, y10, y11, y12, y13, y14, rfl⟩ := list15 xs hxl
  have k1 : ∀ t, t = 3 ∨ t = 22 ∨ t = 4 ∨ t = 23 ∨ t = 24 → Tryd.prog.cellsOf t = 1 := by
    rintro t (rfl | rfl | rfl | rfl | rfl) <;> kernel_rfl
  have g0 : DataW.trod enc Tryd.prog w 0 (fun _ => true) true n 3 (([a0, a1, a2, a3, a4, a5, a6, a7, a8, a9, a10, a11, a12, a13, a14].drop 0).take (Tryd.prog.cellsOf 3)) = some y0 := hx 0 _ rfl
  rw [k1 3 (by decide)] at g0
  have g0' : DataW.trod enc Tryd.prog w 0 (fun _ => true) true n 3 [a0] = some y0 := g0
  have g1 : DataW.trod enc Tryd.prog w 0 (fun _ => true) true n 3 (([a0, a1, a2, a3, a4, a5, a6, a7, a8, a9, a10, a11, a12, a13, a14].drop 1).take (Tryd.prog.cellsOf 3)) = some y1 := hx 1 _ rfl
  rw [k1 3 (by decide)] at g1
  have g1' : DataW.trod enc Tryd.prog w 0 (fun _ => true) true n 3 [a1] = some y1 := g1
  have g2 : DataW.trod enc Tryd.prog w 0 (fun _ => true) true n 22 (([a0, a1, a2, a3, a4, a5, a6, a7, a8, a9, a10, a11, a12, a13, a14].drop 2).take (Tryd.prog.cellsOf 22)) = some y2 := hx 2 _ rfl
  rw [k1 22 (by decide)] at g2
  have g2' : DataW.trod enc Tryd.prog w 0 (fun _ => true) true n 22 [a2] = some y2 := g2
  have g3 : DataW.trod enc Tryd.prog w 0 (fun _ => true) true n 22 (([a0, a1, a2, a3, a4, a5, a6, a7, a8, a9, a10, a11, a12, a13, a14].drop 3).take (Tryd.prog.cellsOf 22)) = some y3 := hx 3 _ rfl
  rw [k1 22 (by decide)] at g3
  have g3' : DataW.trod enc Tryd.prog w 0 (fun _ => true) true n 22 [a3] = some y3 := g3
  have g4 : DataW.trod enc Tryd.prog w 0 (fun _ => true) true n 3 (([a0, a1, a2, a3, a4, a5, a6, a7, a8, a9, a10, a11, a12, a13, a14].drop 4).take (Tryd.prog.cellsOf 3)) = some y4 := hx 4 _ rfl
  rw [k1 3 (by decide)] at g4
  have g4' : DataW.trod enc Tryd.prog w 0 (fun _ => true) true n 3 [a4] = some y4 := g4
  have g5 : DataW.trod enc Tryd.prog w 0 (fun _ => true) true n 3 (([a0, a1, a2, a3, a4, a5, a6, a7, a8, a9, a10, a11, a12, a13, a14].drop 5).take (Tryd.prog.cellsOf 3)) = some y5 := hx 5 _ rfl
  rw [k1 3 (by decide)] at g5
  have g5' : DataW.trod enc Tryd.prog w 0 (fun _ => true) true n 3 [a5] = some y5 := g5
  have g6 : DataW.trod enc Tryd.prog w 0 (fun _ => true) true n 3 (([a0, a1, a2, a3, a4, a5, a6, a7, a8, a9, a10, a11, a12, a13, a14].drop 6).take (Tryd.prog.cellsOf 3)) = some y6 := hx 6 _ rfl
  rw [k1 3 (by decide)] at g6
  have g6' : DataW.trod enc Tryd.prog w 0 (fun _ => true) true n 3 [a6] = some y6 := g6
  have g7 : DataW.trod enc Tryd.prog w 0 (fun _ => true) true n 3 (([a0, a1, a2, a3, a4, a5, a6, a7, a8, a9, a10, a11, a12, a13, a14].drop 7).take (Tryd.prog.cellsOf 3)) = some y7 := hx 7 _ rfl
  rw [k1 3 (by decide)] at g7
  have g7' : DataW.trod enc Tryd.prog w 0 (fun _ => true) true n 3 [a7] = some y7 := g7
  have g8 : DataW.trod enc Tryd.prog w 0 (fun _ => true) true n 3 (([a0, a1, a2, a3, a4, a5, a6, a7, a8, a9, a10, a11, a12, a13, a14].drop 8).take (Tryd.prog.cellsOf 3)) = some y8 := hx 8 _ rfl
  rw [k1 3 (by decide)] at g8
  have g8' : DataW.trod enc Tryd.prog w 0 (fun _ => true) true n 3 [a8] = some y8 := g8
  have g9 : DataW.trod enc Tryd.prog w 0 (fun _ => true) true n 4 (([a0, a1, a2, a3, a4, a5, a6, a7, a8, a9, a10, a11, a12, a13, a14].drop 9).take (Tryd.prog.cellsOf 4)) = some y9 := hx 9 _ rfl
  rw [k1 4 (by decide)] at g9
  have g9' : DataW.trod enc Tryd.prog w 0 (fun _ => true) true n 4 [a9] = some y9 := g9
  have g10 : DataW.trod enc Tryd.prog w 0 (fun _ => true) true n 4 (([a0, a1, a2, a3, a4, a5, a6, a7, a8, a9, a10, a11, a12, a13, a14].drop 10).take (Tryd.prog.cellsOf 4)) = some y10 := hx 10 _ rfl
  rw [k1 4 (by decide)] at g10
  have g10' : DataW.trod enc Tryd.prog w 0 (fun _ => true) true n 4 [a10] = some y10 := g10
  have g11 : DataW.trod enc Tryd.prog w 0 (fun _ => true) true n 22 (([a0, a1, a2, a3, a4, a5, a6, a7, a8, a9, a10, a11, a12, a13, a14].drop 11).take (Tryd.prog.cellsOf 22)) = some y11 := hx 11 _ rfl
  rw [k1 22 (by decide)] at g11
  have g11' : DataW.trod enc Tryd.prog w 0 (fun _ => true) true n 22 [a11] = some y11 := g11
  have g12 : DataW.trod enc Tryd.prog w 0 (fun _ => true) true n 22 (([a0, a1, a2, a3, a4, a5, a6, a7, a8, a9, a10, a11, a12, a13, a14].drop 12).take (Tryd.prog.cellsOf 22)) = some y12 := hx 12 _ rfl
  rw [k1 22 (by decide)] at g12
  have g12' : DataW.trod enc Tryd.prog w 0 (fun _ => true) true n 22 [a12] = some y12 := g12
  have g13 : DataW.trod enc Tryd.prog w 0 (fun _ => true) true n 23 (([a0, a1, a2, a3, a4, a5, a6, a7, a8, a9, a10, a11, a12, a13, a14].drop 13).take (Tryd.prog.cellsOf 23)) = some y13 := hx 13 _ rfl
  rw [k1 23 (by decide)] at g13
  have g13' : DataW.trod enc Tryd.prog w 0 (fun _ => true) true n 23 [a13] = some y13 := g13
  have g14 : DataW.trod enc Tryd.prog w 0 (fun _ => true) true n 24 (([a0, a1, a2, a3, a4, a5, a6, a7, a8, a9, a10, a11, a12, a13, a14].drop 14).take (Tryd.prog.cellsOf 24)) = some y14 := hx 14 _ rfl
  rw [k1 24 (by decide)] at g14
  have g14' : DataW.trod enc Tryd.prog w 0 (fun _ => true) true n 24 [a14] = some y14 := g14
  obtain ⟨sp, e0, _, w0⟩ := DataW.trod_int (k := .i64) Tryd.underlying3 g0'
  obtain ⟨dp, e1, _, w1⟩ := DataW.trod_int (k := .i64) Tryd.underlying3 g1'
  obtain ⟨sq, e2, _, w2⟩ := DataW.trod_int (k := .u32) Tryd.underlying22 g2'
  obtain ⟨ak, e3, _, w3⟩ := DataW.trod_int (k := .u32) Tryd.underlying22 g3'
  obtain ⟨fl, e4, _, w4⟩ := DataW.trod_int (k := .i64) Tryd.underlying3 g4'
  obtain ⟨wn, e5, _, w5⟩ := DataW.trod_int (k := .i64) Tryd.underlying3 g5'
  obtain ⟨ur, e6, _, w6⟩ := DataW.trod_int (k := .i64) Tryd.underlying3 g6'
  obtain ⟨ms, e7, _, w7⟩ := DataW.trod_int (k := .i64) Tryd.underlying3 g7'
  obtain ⟨sc, e8, _, w8⟩ := DataW.trod_int (k := .i64) Tryd.underlying3 g8'
  obtain ⟨so, e9, _⟩ := DataW.trod_bool Tryd.underlying4 g9'
  obtain ⟨st, e10, _⟩ := DataW.trod_bool Tryd.underlying4 g10'
  obtain ⟨va, e11, _, w11⟩ := DataW.trod_int (k := .u32) Tryd.underlying22 g11'
  obtain ⟨ec, e12, _, w12⟩ := DataW.trod_int (k := .u32) Tryd.underlying22 g12'
  obtain ⟨ka, sk, kc, e13, hk⟩ := open_blks g13'
  obtain ⟨da, dat, dc, e14, hd, hdc, hdn, _⟩ := open_bytes g14'
  simp only [List.cons.injEq, and_true] at e0 e1 e2 e3 e4 e5 e6 e7 e8 e9 e10 e11 e12
  subst e0 e1 e2 e3 e4 e5 e6 e7 e8 e9 e10 e11 e12 e13 e14
  refine ⟨⟨sp, dp, sq, ak, fl, wn, ur, ms, sc, so, st, va, ec, sk, dat⟩, ka, kc, da, dc, rfl, ?_, hdc⟩
  exact ⟨⟨bounds_u32 w2, bounds_u32 w3, bounds_u32 w11, bounds_u32 w12, hk.2.1, hd.2.1⟩, hk, hd, bounds_i64 w0, bounds_i64 w1, bounds_i64 w4, bounds_i64 w5, bounds_i64 w6, bounds_i64 w7, bounds_i64 w8, hdn⟩
end Go.Proofs.YtllmeeebjjmanaaDoor
