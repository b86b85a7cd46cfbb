/- A cut of records' first, run. -/
import Derived.Test.YtdgiapeniafklaaFly
import Derived.Test.YtdgiapeniafklaaDetg
namespace Go.Proofs.Ytdgiapeniafklaa
open Go.ChangeShapes Go.WideShapes Go.ChangeAt Go.RowKit Go.Shelf
set_option linter.unusedVariables false
set_option linter.unusedSimpArgs false
attribute [local go_sem] Oper.semAt_some


theorem run_sliceH {ev : Operand → Value} {o : Oper} {t : TypeId} {p q : Operand} {v u x : Value} {e : TypeId} (hu : Try.prog.underlying t = some (.slice e)) (ho : o.op = .slice t p none (some q) none) (hp : ev p = v) (hq : ev q = u) (hr : ∀ W, (Instr.slice t v none (some u) none).run Try.prog W = .ok x W) (w : World) : (execOp ev o).run Try.prog w = .ok (.value x) w := by
  unfold execOp
  simp only [ho, Option.map_some, Option.map_none, hp, hq, Sem.run_bind]
  unfold Instr.sliceAt
  simp only [Sem.run_bind, run_underlying hu, Result.andThen_ok, hr, Sem.run_pure]
theorem run_first (va : Option Addr) (n vc : Nat) (h : 1 ≤ vc) (W : World) : (Instr.slice 24 (.slice va n vc) none (some (.int .i64 1)) none).run Try.prog W = .ok (.slice va 1 vc) W := by
  have h1 : (1 : Int) ≤ (vc : Int) := by omega
  have h0 : ¬ vc = 0 := by omega
  have hs : Try.prog.info? 33 ≠ none := by have := Try.info33; intro h; rw [h] at this; simp at this
  obtain ⟨i0, hi, hz0, hz1, hz2⟩ := info_parts Try.info33
  simp [Instr.slice, Instr.sliceBounds, Instr.sliceBound, run_underlying Try.underlying24, sizeOf, typeInfo, hi, asIntOf, h1]
  cases va <;> simp [Addr.add]
theorem run_rest (va : Option Addr) (n vc : Nat) (hn : 1 ≤ n) (h : n ≤ vc) (W : World) : (Instr.slice 24 (.slice va n vc) (some (.int .i64 1)) none none).run Try.prog W = .ok (.slice (cut1 va vc) (n - 1) (vc - 1)) W := by
  have h1 : (1 : Int) ≤ (n : Int) := by omega
  obtain ⟨i0, hi, hz0, hz1, hz2⟩ := info_parts Try.info33
  simp [Instr.slice, Instr.sliceBounds, Instr.sliceBound, run_underlying Try.underlying24, sizeOf, typeInfo, hi, hz1, asIntOf, h1, cut1]
end Go.Proofs.Ytdgiapeniafklaa
