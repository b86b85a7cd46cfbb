/- The walk of RecvWindow, whole. -/
import Derived.Test.YtkigcdmlkmcdcaaMWinY
namespace Go.Proofs.Ytkigcdmlkmcdcaa
open Go.ChangeShapes Go.WideShapes Go.ChangeAt Go.RowKit
set_option linter.unusedVariables false
set_option linter.unusedSimpArgs false

theorem win_walk (r : Pl.Rv) (h : Hd) (n : Int) (w : World) (H : RvAt w r h) (hn : I64 n) : Calls Try.prog 3 #[.agg #[.int .i64 r.s.n, .slice h.ua r.s.u.length h.uc, .slice h.la h.es.length h.lc, .int .i64 r.cap, .int .i64 r.shift, .int .i64 r.edge, .int .u32 r.recent, .bool r.stamps, .bool r.sacks, .int .i64 r.fin, .bool r.dn, .slice h.fa r.first.length h.fc, .int .u32 r.irs, .int .u32 r.own, .bool r.stamp], .int .i64 n] w fun e w' => e = .returned (.bool true) ∧ Below w.heap.size w w' := by
  by_cases hok : r.Ok
  · exact win_y r h n w H hok
  · exact win_a r h n w H hok
end Go.Proofs.Ytkigcdmlkmcdcaa
