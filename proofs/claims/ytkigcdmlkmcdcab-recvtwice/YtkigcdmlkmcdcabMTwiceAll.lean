/- The walk of RecvTwice, whole. -/
import Derived.Test.YtkigcdmlkmcdcabMTwiceY
namespace Go.Proofs.Ytkigcdmlkmcdcab
open Go.ChangeShapes Go.WideShapes Go.ChangeAt Go.RowKit
set_option linter.unusedVariables false
set_option linter.unusedSimpArgs false

theorem twice_walk (r : Pl.Rv) (h : Hd) (s : Seg) (ks : Hs) (w : World) (H : RvAt w r h) (hs : SgAt w s ks) : Calls Try.prog 3 #[.agg #[.int .i64 r.s.n, .slice h.ua r.s.u.length h.uc, .slice h.la h.es.length h.lc, .int .i64 r.cap, .int .i64 r.shift, .int .i64 r.edge, .int .u32 r.recent, .bool r.stamps, .bool r.sacks, .int .i64 r.fin, .bool r.dn, .slice h.fa r.first.length h.fc, .int .u32 r.irs, .int .u32 r.own, .bool r.stamp], .agg #[.int .i64 s.sp, .int .i64 s.dp, .int .u32 s.sq, .int .u32 s.ak, .int .i64 s.fl, .int .i64 s.wn, .int .i64 s.ur, .int .i64 s.ms, .int .i64 s.sc, .bool s.so, .bool s.st, .int .u32 s.va, .int .u32 s.ec, .slice ks.ka s.sk.length ks.kc, .slice ks.da s.da.length ks.dc]] w fun e w' => e = .returned (.bool true) ∧ Below w.heap.size w w' := by
  by_cases hok : r.Ok
  · by_cases hL : 500 < s.da.length
    · exact twice_b r h s ks w H hok hs hL
    · exact twice_y r h s ks w H hok hs hL
  · exact twice_a r h s ks w H hok
end Go.Proofs.Ytkigcdmlkmcdcab
