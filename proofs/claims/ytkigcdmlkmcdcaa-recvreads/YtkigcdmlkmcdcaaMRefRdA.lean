/- The document's Read: up to its test. -/
import Derived.Test.YtkigcdmlkmcdcaaZ
import Derived.Test.YtkigcdmlkmcdcaaMRefTel2
namespace Go.Proofs.Ytkigcdmlkmcdcaa
open Go.ChangeShapes Go.WideShapes Go.ChangeAt Go.RowKit
set_option linter.unusedVariables false
set_option linter.unusedSimpArgs false

structure RdTo (w wx : World) (r : Pl.Rv) (N : Nat) (r2 : Pl.Rv) (k h1 : Hd) (da : Option Addr) (dc : Nat) : Prop where
 box : Box wx w.heap.size 27 (rvL r2 k)
 zr : Box wx (w.heap.size + 1) 27 zR
 zs : Box wx (w.heap.size + 1 + 1) 34 zS
 own : RvOwn wx (w.heap.size + 3) r h1
 ek : k = { h1 with ua := cutB h1.ua h1.uc N, uc := h1.uc - N }
 row : Row wx w.heap.size da N dc (r.s.u.take N)
 bel : Below w.heap.size w wx
 sz : w.heap.size + 3 ≤ wx.heap.size
theorem RdTo.later {w wx wy : World} {r : Pl.Rv} {N : Nat} {r2 : Pl.Rv} {k h1 : Hd} {da : Option Addr} {dc : Nat} (h : RdTo w wx r N r2 k h1 da dc) (hb : Below wx.heap.size wx wy) : RdTo w wy r N r2 k h1 da dc :=
 ⟨h.box.later hb, h.zr.later hb, h.zs.later hb, h.own.later hb, h.ek, h.row.later hb, h.bel.trans (hb.mono h.bel.size), Nat.le_trans h.sz hb.size⟩
theorem rd_cut {w w2 V3 w5 V6 : World} {r : Pl.Rv} {n : Int} {N U : Nat} {ua : Option Addr} {uc : Nat} {la : Option Addr} {lc : Nat} {es : List En} {fa : Option Addr} {fc : Nat} {da : Option Addr} {dc : Nat} {w0 : World} {h0 : Hd} (H0 : RvAt w0 r h0) (hN : Pl.rdN r n = N) (hU : r.s.u.length = U)
 (hb2 : Box w2 w.heap.size 27 (rvL r h0)) (z1 : Box w2 (w.heap.size + 1) 27 zR) (z2 : Box w2 (w.heap.size + 1 + 1) 34 zS) (hO : RvOwn w2 (w.heap.size + 3) r ⟨ua, uc, la, lc, es, fa, fc⟩) (hsz : w.heap.size + 3 ≤ w2.heap.size) (hbw : Below w.heap.size w w2)
 (hV3 : setAll w2 w.heap.size 0 (rvL r ⟨ua, uc, la, lc, es, fa, fc⟩) = V3) (hB5 : Below V3.heap.size V3 w5) (hR5 : Row w5 V3.heap.size da N dc (r.s.u.take N)) (hV6 : w5.setCell ⟨w.heap.size, 1, none⟩ (.slice (cutB ua uc N) (U - N) (uc - N)) = V6) :
 RdTo w V6 r N (Pl.cutR r n) ⟨cutB ua uc N, uc - N, la, lc, es, fa, fc⟩ ⟨ua, uc, la, lc, es, fa, fc⟩ da dc := by
 have b3 : Box V3 w.heap.size 27 (rvL r ⟨ua, uc, la, lc, es, fa, fc⟩) := by rw [← hV3]; exact hb2.put _ rfl
 have s3 : V3.heap.size = w2.heap.size := by rw [← hV3]; exact zcn
 have b5 := b3.later hB5
 have o5 : RvOwn w5 (w.heap.size + 3) r ⟨ua, uc, la, lc, es, fa, fc⟩ := by
  refine RvOwn.later ?_ hB5
  rw [← hV3]; exact hO.aside _ _ _ (by omega)
 have o6 : RvOwn V6 (w.heap.size + 3) r ⟨ua, uc, la, lc, es, fa, fc⟩ := by rw [← hV6]; exact o5.aside w.heap.size 1 [.slice (cutB ua uc N) (U - N) (uc - N)] (by omega)
 have hlen : (Pl.cutR r n).s.u.length = U - N := by
  show (r.s.u.drop (Pl.rdN r n)).length = _
  rw [List.length_drop, hN, hU]
 have hb3w : Below w.heap.size w V3 := by rw [← hV3]; exact zah (Nat.le_refl _) hbw
 refine ⟨?_, ?_, ?_, o6, rfl, ?_, ?_, ?_⟩
 · have := b5.set 1 (.slice (cutB ua uc N) (U - N) (uc - N))
   unfold rvL
   rw [← hV6, hlen]
   exact this
 · rw [← hV6]
   refine Box.aside (Box.later ?_ hB5) _ _ _ (by omega)
   rw [← hV3]; exact z1.putAside _ _ _ (by omega)
 · rw [← hV6]
   refine Box.aside (Box.later ?_ hB5) _ _ _ (by omega)
   rw [← hV3]; exact z2.putAside _ _ _ (by omega)
 · rw [← hV6]
   exact zap (hR5.mono (by omega)) b5 (by decide) _ _
 · rw [← hV6]
   exact zas (hb3w.trans (hB5.mono (by omega))) _ _ _ (Nat.le_refl _)
 · rw [← hV6]
   have h1 := hB5.size
   have : (w5.setCell ⟨w.heap.size, 1, none⟩ (.slice (cutB ua uc N) (U - N) (uc - N))).heap.size = w5.heap.size := by simp [World.setCell]
   omega
theorem own_cut {X : World} {B : Nat} {r : Pl.Rv} {k h1 : Hd} {n : Int} {N : Nat} {w0 : World} {h0 : Hd} (ho : RvOwn X B r h1) (H0 : RvAt w0 r h0) (hN : Pl.rdN r n = N) (ek : k = { h1 with ua := cutB h1.ua h1.uc N, uc := h1.uc - N }) : RvAt X (Pl.cutR r n) k := by
 have := (ho.at H0).cut n
 rw [hN] at this
 rw [ek]
 exact this
theorem run_build0 {ev : Operand → Value} {o : Oper} (ho : o.op = .build 34 #[]) (w : World) : (execOp ev o).run Try.prog w = .ok (.value (.agg #[.int .i64 0, .int .i64 0, .int .u32 0, .int .u32 0, .int .i64 0, .int .i64 0, .int .i64 0, .int .i64 0, .int .i64 0, .bool false, .bool false, .int .u32 0, .int .u32 0, .slice none 0 0, .slice none 0 0])) w := by
 unfold execOp
 simp only [ho]
 first | (go_simp; done) | (go_simp; with_reducible rfl)
theorem wp_retR {id : Nat} {Q : Exit → Act → World → Prop} {a : Act} {w : World} {o1 o2 o3 o4 o5 o6 o7 o8 : Oper} (g1 : o1.guard = none) (g2 : o2.guard = none) (g3 : o3.guard = none) (g4 : o4.guard = none) (g5 : o5.guard = none) (g6 : o6.guard = none) (g7 : o7.guard = none) (g8 : o8.guard = none)
 {p1 p2 q1 q2 c7 c8 : Operand} {t1 t2 t3 t5 t7 t8 : Tmp} (h1 : o1.op = .load 27 p1) (d1 : o1.dst = some t1) (h2 : o2.op = .move p2) (d2 : o2.dst = some t2) (h3 : o3.op = .build 34 #[]) (d3 : o3.dst = some t3) (h4 : o4.op = .store 27 q1 (.tmp t1)) (d4 : o4.dst = none) (h5 : o5.op = .assign (.tmp t2)) (d5 : o5.dst = some t5) (h6 : o6.op = .store 34 q2 (.tmp t3)) (d6 : o6.dst = none) (h7 : o7.op = .assign c7) (d7 : o7.dst = some t7) (h8 : o8.op = .assign c8) (d8 : o8.dst = some t8)
 (r : Pl.Rv) (k : Hd) {gs gd gz : Nat} {sl v7 v8 : Value} {A1 A2 A3 A5 A7 : Act} (eA1 : a.put (some t1) (.agg #[.int .i64 r.s.n, .slice k.ua r.s.u.length k.uc, .slice k.la k.es.length k.lc, .int .i64 r.cap, .int .i64 r.shift, .int .i64 r.edge, .int .u32 r.recent, .bool r.stamps, .bool r.sacks, .int .i64 r.fin, .bool r.dn, .slice k.fa r.first.length k.fc, .int .u32 r.irs, .int .u32 r.own, .bool r.stamp]) = A1) (eA2 : A1.put (some t2) sl = A2) (eA3 : A2.put (some t3) (.agg #[.int .i64 0, .int .i64 0, .int .u32 0, .int .u32 0, .int .i64 0, .int .i64 0, .int .i64 0, .int .i64 0, .int .i64 0, .bool false, .bool false, .int .u32 0, .int .u32 0, .slice none 0 0, .slice none 0 0]) = A3) (eA5 : A3.put (some t5) sl = A5) (eA7 : A5.put (some t7) v7 = A7)
 (e1 : a.eval p1 = .pointer (some ⟨gs, 0, none⟩)) (e2 : A1.eval p2 = sl) (e4 : A3.eval q1 = .pointer (some ⟨gd, 0, none⟩)) (e4' : A3.eval (.tmp t1) = .agg #[.int .i64 r.s.n, .slice k.ua r.s.u.length k.uc, .slice k.la k.es.length k.lc, .int .i64 r.cap, .int .i64 r.shift, .int .i64 r.edge, .int .u32 r.recent, .bool r.stamps, .bool r.sacks, .int .i64 r.fin, .bool r.dn, .slice k.fa r.first.length k.fc, .int .u32 r.irs, .int .u32 r.own, .bool r.stamp]) (e5 : A3.eval (.tmp t2) = sl) (e6 : A5.eval q2 = .pointer (some ⟨gz, 0, none⟩)) (e6' : A5.eval (.tmp t3) = .agg #[.int .i64 0, .int .i64 0, .int .u32 0, .int .u32 0, .int .i64 0, .int .i64 0, .int .i64 0, .int .i64 0, .int .i64 0, .bool false, .bool false, .int .u32 0, .int .u32 0, .slice none 0 0, .slice none 0 0]) (e7 : A5.eval c7 = v7) (e8 : A7.eval c8 = v8)
 (hs : Box w gs 27 (rvL r k)) (hd : Box w gd 27 zR) (hz : Box w gz 34 zS) (hne : gz ≠ gd)
 (h : ∀ Y, setAll (setAll w gd 0 (rvL r k)) gz 0 (sgL zeroS ⟨none, 0, none, 0⟩) = Y → Q .normal (A7.put (some t8) v8) Y) : (Code.region id #[o1, o2, o3, o4, o5, o6, o7, o8] false).wp Try.prog Q a w := by
 refine wp_region_list (ops := #[o1, o2, o3, o4, o5, o6, o7, o8]) ?_
 refine wpList_plain g1 fun K hK => ?_
 unfold Oper.wp
 rw [run_loadR h1 e1 r k w hs, Oper.upon_value, d1, eA1]
 refine hK _ _ ?_
 refine wpList_plain g2 fun K hK => ?_
 unfold Oper.wp
 rw [run_move h2, Oper.upon_value, d2, e2, eA2]
 refine hK _ _ ?_
 refine wpList_plain g3 fun K hK => ?_
 unfold Oper.wp
 rw [run_build0 h3, Oper.upon_value, d3, eA3]
 refine hK _ _ ?_
 refine wpList_plain g4 fun K hK => ?_
 have s4 := zbx (ops := #[o1, o2, o3, o4, o5, o6, o7, o8]) (o := o4) (a := A3) (w := w) (K := K) (Q := Q) (E := False) g4 q1 (.tmp t1) h4 r k gd (cs := zR) rfl e4 e4' hd rfl (fun v => hK _ _ ?_)
 · rwa [if_pos (by simp [Region.wanted, g4])] at s4
 rw [d4]
 refine wpList_plain g5 fun K hK => ?_
 unfold Oper.wp
 rw [zd9 h5, Oper.upon_value, d5, show (A3.put none v).eval (.tmp t2) = sl from e5, show (A3.put none v).put (some t5) sl = A5 from eA5]
 refine hK _ _ ?_
 refine wpList_plain g6 fun K hK => ?_
 have s6 := zct (ops := #[o1, o2, o3, o4, o5, o6, o7, o8]) (o := o6) (a := A5) (w := setAll w gd 0 (rvL r k)) (K := K) (Q := Q) (E := False) g6 q2 (.tmp t3) h6 zeroS ⟨none, 0, none, 0⟩ gz (cs := zS) rfl e6 e6' (hz.putAside _ _ _ hne) rfl (fun u => hK _ _ ?_)
 · rwa [if_pos (by simp [Region.wanted, g6])] at s6
 rw [d6]
 refine wpList_plain g7 fun K hK => ?_
 unfold Oper.wp
 rw [zd9 h7, Oper.upon_value, d7]
 refine hK _ _ ?_
 rw [show (A5.put none u).put (some t7) ((A5.put none u).eval c7) = A7 from by rw [show (A5.put none u).eval c7 = v7 from e7]; exact eA7]
 refine wpList_plain g8 fun K hK => ?_
 unfold Oper.wp
 rw [zd9 h8, Oper.upon_value, d8, e8]
 refine hK _ _ ?_
 exact h _ rfl
end Go.Proofs.Ytkigcdmlkmcdcaa

