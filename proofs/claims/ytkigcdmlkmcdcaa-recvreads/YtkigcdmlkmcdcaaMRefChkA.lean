/- The document's Check: numbers. -/
import Derived.Test.YtkigcdmlkmcdcaaZ
import Derived.Test.YtkigcdmlkmcdcaaMRefLow
namespace Go.Proofs.Ytkigcdmlkmcdcaa
open Go.ChangeShapes Go.WideShapes Go.ChangeAt Go.RowKit
set_option linter.unusedVariables false
set_option linter.unusedSimpArgs false

set_option maxRecDepth 100000 in
set_option maxHeartbeats 16000000 in
theorem refChk_low (r : Pl.Rv) (h : Hd) (w : World) (hl : ¬ lowB r) : Calls Try.prog 18 #[.agg #[.int .i64 r.s.n, .slice h.ua r.s.u.length h.uc, .slice h.la h.es.length h.lc, .int .i64 r.cap, .int .i64 r.shift, .int .i64 r.edge, .int .u32 r.recent, .bool r.stamps, .bool r.sacks, .int .i64 r.fin, .bool r.dn, .slice h.fa r.first.length h.fc, .int .u32 r.irs, .int .u32 r.own, .bool r.stamp]] w fun e w' => e = .returned (.int .i64 230) ∧ Below w.heap.size w w' := by
 have HN : Hid (¬ lowB r) := hl
 clear hl
 have HB : Hid (Below w.heap.size w (w.alloc (.cells #[.int .i64 r.s.n, .slice h.ua r.s.u.length h.uc, .slice h.la h.es.length h.lc, .int .i64 r.cap, .int .i64 r.shift, .int .i64 r.edge, .int .u32 r.recent, .bool r.stamps, .bool r.sacks, .int .i64 r.fin, .bool r.dn, .slice h.fa r.first.length h.fc, .int .u32 r.irs, .int .u32 r.own, .bool r.stamp] 27))) := zaa (Below.refl _ _) _
 go_enter Try.func18, Try.ntmps18
 go_wp2_with fail
 all_goals first
  | (go_ret; exact ⟨rfl, HB.out⟩)
  | (exfalso; refine HN.out ?_; unfold lowB; omega)
end Go.Proofs.Ytkigcdmlkmcdcaa

