/- The walk of RecvOld, whole. -/
import Derived.Test.YtkigcdmlkmcdcaaMOldY
namespace Go.Proofs.Ytkigcdmlkmcdcaa
open Go.ChangeShapes Go.WideShapes Go.ChangeAt Go.RowKit
set_option linter.unusedVariables false
set_option linter.unusedSimpArgs false

theorem old_walk (r : Pl.Rv) (h : Hd) (s : Seg) (ks : Hs) (bh : Int) (w : World) (H : RvAt w r h) (HG : SgAt w s ks) (hb : I64 bh) : Calls Try.prog 4 #[.agg #[.int .i64 r.s.n, .slice h.ua r.s.u.length h.uc, .slice h.la h.es.length h.lc, .int .i64 r.cap, .int .i64 r.shift, .int .i64 r.edge, .int .u32 r.recent, .bool r.stamps, .bool r.sacks, .int .i64 r.fin, .bool r.dn, .slice h.fa r.first.length h.fc, .int .u32 r.irs, .int .u32 r.own, .bool r.stamp], .agg #[.int .i64 s.sp, .int .i64 s.dp, .int .u32 s.sq, .int .u32 s.ak, .int .i64 s.fl, .int .i64 s.wn, .int .i64 s.ur, .int .i64 s.ms, .int .i64 s.sc, .bool s.so, .bool s.st, .int .u32 s.va, .int .u32 s.ec, .slice ks.ka s.sk.length ks.kc, .slice ks.da s.da.length ks.dc], .int .i64 bh] w fun e w' => e = .returned (.bool true) ∧ Below w.heap.size w w' := by
  by_cases hok : r.Ok
  · by_cases h7 : r.stamps = true
    · by_cases h14 : r.stamp = true
      · by_cases h1 : bh < 1
        · exact old_d r h s ks bh w H hok h7 h14 h1
        · by_cases h2 : 2147483647 < bh
          · exact old_e r h s ks bh w H hok h7 h14 h1 h2
          · by_cases h3 : 500 < s.da.length
            · exact old_f r h s ks bh w H hok h7 h14 h1 h2 _ rfl h3
            · exact old_y r h s ks bh w H hok h7 h14 h1 h2 _ rfl h3 HG
      · exact old_c r h s ks bh w H hok h7 (show r.stamp = false by simpa using h14)
    · exact old_b r h s ks bh w H hok (show r.stamps = false by simpa using h7)
  · exact old_a r h s ks bh w H hok
end Go.Proofs.Ytkigcdmlkmcdcaa
