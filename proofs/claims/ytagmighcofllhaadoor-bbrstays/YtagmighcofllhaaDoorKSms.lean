/- Samples in a row. -/
import Derived.Test.YtagmighcofllhaaDoorKOpen
import Derived.Deep.MidRow
import Derived.Deep.Slices
namespace Go.Proofs.YtagmighcofllhaaDoor
open Go.ChangeShapes Go.WideShapes Go.ChangeAt Go.RowKit
set_option linter.unusedVariables false
set_option linter.unusedSimpArgs false

open Fil
def sz8 : Sm := ⟨0, 0, 0, 0, false, 0, 0, 0⟩
def nthS (l : List Sm) (j : Nat) : Sm := l[j]?.getD sz8
def SmsAt (w : World) (A : Option Addr) (l : List Sm) : Prop := l.length ≤ maxLen ∧ ∀ j, j < l.length → ∃ b o, A = some ⟨b, o, none⟩ ∧ w.rangeAt b (o + j * 8) (smL (nthS l j))
theorem SmsAt.below {w X : World} {A : Option Addr} {l : List Sm} (h : SmsAt w A l) (hb : Below w.heap.size w X) : SmsAt X A l := ⟨h.1, fun j hj => by
  obtain ⟨b, o, e, hr⟩ := h.2 j hj
  refine ⟨b, o, e, fun k v hk => ?_⟩
  have hc := hr k v hk
  exact (Below.cell (p := ⟨b, o + j * 8 + k, none⟩) hb (Fil.lt_of_cell hc)).trans hc⟩
set_option maxRecDepth 100000 in
theorem sm_of {H : Type} {enc : TypeId × Value → H} {w : World} {fuel : Nat} {l : List Value} {y : DataW H × List MemPlace} (hl : l.length = 8) (hf : DataW.trod enc Tryd.prog w 0 (fun _ => true) true fuel 28 l = some y) : ∃ x : Sm, l = smL x := by
  obtain ⟨xs, n, _, hd, _, hxl, hx⟩ := DataW.trod_struct Tryd.underlying28 hf
  have c_int : Tryd.prog.cellsOf 3 = 1 := by kernel_rfl
  have c_bool : Tryd.prog.cellsOf 4 = 1 := by kernel_rfl
  match l, hl, xs, hxl with
  | [a0, a1, a2, a3, a4, a5, a6, a7], _, [y0, y1, y2, y3, y4, y5, y6, y7], _ =>
    have g0 : DataW.trod enc Tryd.prog w 0 (fun _ => true) true n 3 (([a0, a1, a2, a3, a4, a5, a6, a7].drop 0).take (Tryd.prog.cellsOf 3)) = some y0 := hx 0 _ rfl
    rw [c_int] at g0
    obtain ⟨z0, e0, _, w0⟩ := DataW.trod_int (k := .i64) Tryd.underlying3 g0
    have g1 : DataW.trod enc Tryd.prog w 0 (fun _ => true) true n 3 (([a0, a1, a2, a3, a4, a5, a6, a7].drop 1).take (Tryd.prog.cellsOf 3)) = some y1 := hx 1 _ rfl
    rw [c_int] at g1
    obtain ⟨z1, e1, _, w1⟩ := DataW.trod_int (k := .i64) Tryd.underlying3 g1
    have g2 : DataW.trod enc Tryd.prog w 0 (fun _ => true) true n 3 (([a0, a1, a2, a3, a4, a5, a6, a7].drop 2).take (Tryd.prog.cellsOf 3)) = some y2 := hx 2 _ rfl
    rw [c_int] at g2
    obtain ⟨z2, e2, _, w2⟩ := DataW.trod_int (k := .i64) Tryd.underlying3 g2
    have g3 : DataW.trod enc Tryd.prog w 0 (fun _ => true) true n 3 (([a0, a1, a2, a3, a4, a5, a6, a7].drop 3).take (Tryd.prog.cellsOf 3)) = some y3 := hx 3 _ rfl
    rw [c_int] at g3
    obtain ⟨z3, e3, _, w3⟩ := DataW.trod_int (k := .i64) Tryd.underlying3 g3
    have g4 : DataW.trod enc Tryd.prog w 0 (fun _ => true) true n 4 (([a0, a1, a2, a3, a4, a5, a6, a7].drop 4).take (Tryd.prog.cellsOf 4)) = some y4 := hx 4 _ rfl
    rw [c_bool] at g4
    obtain ⟨z4, e4, _⟩ := DataW.trod_bool Tryd.underlying4 g4
    have g5 : DataW.trod enc Tryd.prog w 0 (fun _ => true) true n 3 (([a0, a1, a2, a3, a4, a5, a6, a7].drop 5).take (Tryd.prog.cellsOf 3)) = some y5 := hx 5 _ rfl
    rw [c_int] at g5
    obtain ⟨z5, e5, _, w5⟩ := DataW.trod_int (k := .i64) Tryd.underlying3 g5
    have g6 : DataW.trod enc Tryd.prog w 0 (fun _ => true) true n 3 (([a0, a1, a2, a3, a4, a5, a6, a7].drop 6).take (Tryd.prog.cellsOf 3)) = some y6 := hx 6 _ rfl
    rw [c_int] at g6
    obtain ⟨z6, e6, _, w6⟩ := DataW.trod_int (k := .i64) Tryd.underlying3 g6
    have g7 : DataW.trod enc Tryd.prog w 0 (fun _ => true) true n 3 (([a0, a1, a2, a3, a4, a5, a6, a7].drop 7).take (Tryd.prog.cellsOf 3)) = some y7 := hx 7 _ rfl
    rw [c_int] at g7
    obtain ⟨z7, e7, _, w7⟩ := DataW.trod_int (k := .i64) Tryd.underlying3 g7
    simp at e0 e1 e2 e3 e4 e5 e6 e7
    subst e0; subst e1; subst e2; subst e3; subst e4; subst e5; subst e6; subst e7
    exact ⟨⟨z0, z1, z2, z3, z4, z5, z6, z7⟩, rfl⟩

theorem open_sms {H : Type} {enc : TypeId × Value → H} {w : World} {fuel : Nat} {v : Value} {d : DataW H} {p : List MemPlace} (h : DataW.trod enc Tryd.prog w 0 (fun _ => true) true fuel 44 [v] = some (d, p)) :
    ∃ a l c, v = .slice a l.length c ∧ SmsAt w a l := by
  rcases Deep.open_slice Tryd.underlying44 h with ⟨hcs, _⟩ | ⟨y, len, cap, m, n, D, Pl, hcs, _, hl, hm, hmm, hx0, hx⟩
  · simp at hcs
    subst hcs
    exact ⟨none, [], 0, rfl, by simp, fun j hj => by simp at hj⟩
  · simp at hcs hmm
    subst hcs
    have hc : Tryd.prog.cellsOf 28 = 8 := by kernel_rfl
    haveI : Inhabited Sm := ⟨sz8⟩
    have each : ∀ i, i < len → ∃ x : Sm, ∀ j u, (smL x)[j]? = some u → w.cell? ((y.add (i * 8)).add j) = some u := fun i hi => by
      obtain ⟨cs', h1, h2⟩ := hx i (by omega)
      rw [hc] at h1
      obtain ⟨_, hlen, hcell⟩ := World.cells?_some h1
      obtain ⟨x, rfl⟩ := sm_of hlen h2
      refine ⟨x, fun j u hj => ?_⟩
      have hj8 : j < 8 := by
        rcases Nat.lt_or_ge j 8 with h | h
        · exact h
        · rw [List.getElem?_eq_none (by show 8 ≤ j; exact h)] at hj; cases hj
      have := hcell j hj8
      rw [this]
      first | exact hj | (rw [← hj]; simp [smL, hj8])
    obtain ⟨X, hX⟩ := Deep.choose_lt (α := Sm) each
    refine ⟨some y, (List.range len).map X, cap, by simp, by simp; omega, fun j hj => ?_⟩
    have hj' : j < len := by simpa using hj
    obtain ⟨b, o, rfl⟩ := spot_none (w := w) (a := y) (v := .int .i64 (X 0).nw) (by
      have := hX 0 (by omega) 0 _ rfl
      rw [Nat.zero_mul] at this
      have e : (y.add 0).add 0 = y.add 0 := by unfold Addr.add; split <;> simp_all
      rwa [e] at this)
    refine ⟨b, o, rfl, fun k v hk => ?_⟩
    have e : nthS ((List.range len).map X) j = X j := by simp [nthS, hj']
    rw [e] at hk
    have := hX j hj' k v hk
    rwa [Addr.add_mid, Addr.add_mid] at this
end Go.Proofs.YtagmighcofllhaaDoor
