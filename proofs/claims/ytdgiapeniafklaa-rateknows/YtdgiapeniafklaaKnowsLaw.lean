/- The walk of RateKnows, whole. -/
import Derived.Test.YtdgiapeniafklaaKnowsWalk
namespace Go.Proofs.Ytdgiapeniafklaa
open Go.ChangeShapes Go.WideShapes Go.ChangeAt Go.RowKit Go.Shelf
set_option linter.unusedVariables false
set_option linter.unusedSimpArgs false
attribute [local go_sem] Oper.semAt_some


theorem knows_walk (q : Rt) (A : Option Addr) (cap : Nat) (ts : List Rc) (now low : Int) (w : World) (hq : RtI q) (hT : RecsAt w A ts) (hI : ∀ x ∈ ts, RcI x) (h1 : I64 now) (h2 : I64 low) : Calls Try.prog 5 #[agv (rtL q), .slice A ts.length cap, .int .i64 now, .int .i64 low] w fun e w' => e = .returned (.bool true) ∧ Below w.heap.size w w' := by
  have c1 := fun W (h : RecsAt W A ts) => giv_is q A cap ts now low W h hI rfl rfl rfl
  have c2 := fun W (h : RecsAt W A ts) => rgiv_is q A cap ts now low W h hI rfl rfl rfl
  have c3 := fun W => chk_is q rfl W
  have c4 := fun W => rchk_is q rfl W
  have c7 := fun W => idl_is q low rfl rfl W
  have c8 := fun W => ridl_is q low rfl rfl W
  by_cases h0 : ts = []
  · subst h0
    have hz : RcI rcZ := by refine ⟨?_, ?_, ?_, ?_, ?_, ?_, ?_⟩ <;> (constructor <;> decide)
    exact knows_z q _ _ _ _ rcZ _ A cap [] now low _ _ _ _ _ _ heads_is rfl rfl c1 c2 c3 c4 (fun W => snt_is q rcZ now _ hz rfl rfl rfl W) (fun W => rsnt_is q rcZ now _ hz rfl rfl rfl W) c7 c8 w hT
  · have hpos : 0 < ts.length := by cases ts with | nil => exact absurd rfl h0 | cons a l => simp
    have hz : RcI (nth ts 0) := hI _ (nth_mem hpos)
    exact knows_m q _ _ _ _ (nth ts 0) _ A ts.length cap ts now low _ _ _ _ _ _ heads_is hpos rfl rfl rfl rfl c1 c2 c3 c4 (fun W => snt_is q (nth ts 0) now _ hz rfl rfl rfl W) (fun W => rsnt_is q (nth ts 0) now _ hz rfl rfl rfl W) c7 c8 w hT
end Go.Proofs.Ytdgiapeniafklaa
