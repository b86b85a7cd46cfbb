/- Entries and numbers that came in. -/
import Derived.Test.YtliiogafemlagaaBase
import Derived.Test.YtliiogafemlagaaOpen
import Derived.Deep.SlicePairs
import Derived.Deep.Slices
import Derived.ProofKit
import Derived.OpenShut
import Derived.SizedLaws
namespace Go.Proofs.Ytliiogafemlagaa
open Go.ChangeShapes Go.WideShapes Go.ChangeAt Go.RowKit Go.Shelf
set_option linter.unusedVariables false
set_option linter.unusedSimpArgs false
attribute [local go_sem] Oper.semAt_some


abbrev Tm := Int × Int
/-- The slice at a, of as many entries as l has, holds l. -/
def TimsAt (w : World) (a : Option Addr) (l : List Tm) : Prop :=
  l.length ≤ maxLen ∧ ∀ j, j < l.length → ∃ b o, a = some ⟨b, o, none⟩ ∧ w.cell? ⟨b, o + j * 2, none⟩ = some (.int .i64 (l[j]?.getD (0, 0)).1) ∧ w.cell? ⟨b, o + j * 2 + 1, none⟩ = some (.int .i64 (l[j]?.getD (0, 0)).2)
theorem TimsAt.nil (w : World) (a : Option Addr) : TimsAt w a [] := ⟨by simp, fun j hj => by simp at hj⟩
theorem spot_none {w : World} {a : Addr} {v : Value} (h : w.cell? (a.add 0) = some v) : ∃ b o, a = ⟨b, o, none⟩ := by
  obtain ⟨b, o, spot⟩ := a
  have hs : spot = none := by simpa [Addr.add] using World.cell?_spot h
  subst hs
  exact ⟨b, o, rfl⟩

theorem open_tims {H : Type} {enc : TypeId × Value → H} {w : World} {fuel : Nat} {v : Value} {d : DataW H} {p : List MemPlace} (h : DataW.trod enc Try.prog w 0 (fun _ => true) true fuel 40 [v] = some (d, p)) :
    ∃ a l c, v = .slice a l.length c ∧ TimsAt w a l ∧ (a = none → c = 0) ∧ l.length ≤ c ∧ (l = [] ∨ ∃ es sp, d = .slice es sp ∧ es.length = l.length) := by
  rcases Deep.open_slice_pairs Try.underlying40 Try.underlying43 (by kernel_rfl) rfl rfl (by kernel_rfl) (by kernel_rfl) h with ⟨hcs, _⟩ | ⟨y, len, cap, m, n, V0, V1, D0, D1, P0, P1, hcs, _, hl, hm, hmm, hx0, hx⟩
  · simp at hcs
    subst hcs
    exact ⟨none, [], 0, rfl, TimsAt.nil _ _, fun _ => rfl, Nat.le_refl _, .inl rfl⟩
  · simp at hcs hmm
    subst hcs
    have each : ∀ i, i < len → ∃ f t, V0 i = .int .i64 f ∧ V1 i = .int .i64 t := fun i hi => by
      obtain ⟨_, _, h0, h1⟩ := hx i (by omega)
      obtain ⟨f, e0, _, _⟩ := DataW.trod_int (k := .i64) Try.underlying3 h0
      obtain ⟨t, e1, _, _⟩ := DataW.trod_int (k := .i64) Try.underlying3 h1
      simp at e0 e1
      exact ⟨f, t, e0, e1⟩
    refine ⟨some y, (List.range len).map (fun i => (intOf (V0 i), intOf (V1 i))), cap, by simp, ⟨by simp; omega, fun j hj => ?_⟩, fun h => (by cases h), by simp; omega, ?_⟩
    · have hj' : j < len := by simpa using hj
      obtain ⟨f, t, e0, e1⟩ := each j hj'
      obtain ⟨q0, q1, _, _⟩ := hx j (by omega)
      obtain ⟨b, o, rfl⟩ := spot_none (by have := (hx 0 (by omega)).1; simpa using this)
      rw [add_lit] at q0 q1
      refine ⟨b, o, rfl, ?_, ?_⟩
      · rw [q0, e0]; simp [hj', e0, intOf]
      · rw [show o + j * 2 + 1 = o + (j * 2 + 1) from by omega, q1, e1]; simp [hj', e1, intOf]
    · simp only [Prod.mk.injEq] at hx0
      exact .inr ⟨_, _, hx0.1, by simp⟩
/-- The slice at A holds these numbers. -/
def IntsAt (w : World) (A : Option Addr) (xs : List Int) : Prop := ∀ j, j < xs.length → ∃ b o, A = some ⟨b, o, none⟩ ∧ w.cell? ⟨b, o + j, none⟩ = some (.int .i64 (xs[j]?.getD 0)) ∧ I64 (xs[j]?.getD 0)
theorem IntsAt.later {w w' : World} {A : Option Addr} {xs : List Int} (h : IntsAt w A xs) (hb : Below w.heap.size w w') : IntsAt w' A xs := fun j hj => by
  obtain ⟨b, o, e, hc, hi⟩ := h j hj
  exact ⟨b, o, e, (hb.cell (p := ⟨b, o + j, none⟩) (lt_of_cell hc)).trans hc, hi⟩
theorem open_nums {H : Type} {enc : TypeId × Value → H} {w : World} {fuel : Nat} {v : Value} {d : DataW H} {p : List MemPlace} (h : DataW.trod enc Try.prog w 0 (fun _ => true) true fuel 41 [v] = some (d, p)) :
    ∃ A xs c, v = .slice A xs.length c ∧ IntsAt w A xs ∧ xs.length ≤ 9223372036854775807 := by
  rcases open_ints Try.underlying41 Try.underlying3 (by kernel_rfl) h with ⟨hcs, _⟩ | ⟨x, l, c, zs, hcs, _, hl, hm, hz, hxe, hcell, hwz⟩
  · simp at hcs
    subst hcs
    exact ⟨none, [], 0, rfl, fun j hj => (by simp at hj), by simp⟩
  · simp at hcs hz
    subst hcs
    have hlen : (zs.take l).length = l := by simp; omega
    simp only [maxLen] at hm
    refine ⟨some x, zs.take l, c, by rw [hlen], fun j hj => ?_, by omega⟩
    rw [hlen] at hj
    obtain ⟨b, o, rfl⟩ := spot_none (by have := hcell 0 (by omega); exact this)
    have := hcell j (by omega)
    rw [add_lit] at this
    refine ⟨b, o, rfl, ?_, ?_⟩
    · rw [this, List.getElem?_take_of_lt hj]; rfl
    · rw [List.getElem?_take_of_lt hj]
      have hj2 : j < zs.length := by omega
      rw [List.getElem?_eq_getElem hj2]
      exact bounds_i64 (hwz _ (List.getElem_mem hj2))
end Go.Proofs.Ytliiogafemlagaa
