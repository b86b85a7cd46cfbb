/- Rows of bytes that came in. -/
import Derived.Test.YtkbgpbhlcmainaaOpen
import Derived.Test.YtkbgpbhlcmainaaOrderWalk
namespace Go.Proofs.Ytkbgpbhlcmainaa
open Go.ChangeShapes Go.WideShapes Go.ChangeAt Go.RowKit
set_option linter.unusedVariables false

theorem open_parts {H : Type} {enc : TypeId × Value → H} {w : World} {fuel : Nat} {v : Value} {d : DataW H} {p : List MemPlace} (h : DataW.trod enc Try.prog w 0 (fun _ => true) true fuel 48 [v] = some (d, p)) (hw : ∀ n ∈ d.weights Try.prog 48, n ≤ reachBytes) :
    ∃ A parts c, v = .slice A parts.length c ∧ PartsAt w A parts ∧ parts.length ≤ 9223372036854775807 := by
  rcases Deep.open_slice1 Try.underlying48 (by kernel_rfl) h with ⟨hcs, _⟩ | ⟨y, len, cap, m, n, V, D, Pl, hcs, _, hl, hm, hmm, hx0, hx⟩
  · simp at hcs
    subst hcs
    exact ⟨none, [], 0, rfl, fun i hi => by simp at hi, by simp⟩
  · simp at hcs hmm
    subst hcs
    simp only [Prod.mk.injEq] at hx0
    obtain ⟨rfl, _⟩ := hx0
    have each : ∀ i, i < len → ∃ x : En, V i = .slice x.a x.bs.length x.c ∧ BytesAt w x.a x.bs ∧ (x.a = none → x.c = 0) := fun i hi => by
      obtain ⟨_, h0⟩ := hx i (by omega)
      obtain ⟨a, bs, c, e0, hB, hn⟩ := open_byts h0 (fun q hq => hw q (by
        simp only [DataW.weights, Try.underlying48, List.mem_cons, List.mem_append]
        exact .inr (.inl (weights_all (d := D i) hq (List.mem_map.2 ⟨i, List.mem_range.2 hi, rfl⟩)))))
      exact ⟨⟨a, c, bs, 0⟩, e0, hB, hn⟩
    haveI : Inhabited En := ⟨e0⟩
    obtain ⟨X, hX⟩ := Deep.choose_lt (α := En) each
    refine ⟨some y, (List.range len).map fun i => (X i).bs, cap, by simp, fun j hj => ?_, by simp only [maxLen] at hm; simp; omega⟩
    have hj' : j < len := by simpa using hj
    obtain ⟨q0, _⟩ := hx j (by omega)
    obtain ⟨b, o, rfl⟩ := spot_none (by have := (hx 0 (by omega)).1; simpa using this)
    rw [add_plain] at q0
    obtain ⟨e, hB, hn⟩ := hX j hj'
    have hg : ((List.range len).map fun i => (X i).bs)[j]?.getD [] = (X j).bs := by simp [hj']
    rw [hg]
    exact ⟨b, o, (X j).a, (X j).c, rfl, by rw [q0, e], hB, hn⟩
end Go.Proofs.Ytkbgpbhlcmainaa
