/- The document's Same of receivers, true of two that are alike. -/
import Derived.Test.YtkigcdmlkmcdcaaZ
import Derived.Test.YtkigcdmlkmcdcaaMInAll
namespace Go.Proofs.Ytkigcdmlkmcdcaa
open Go.ChangeShapes Go.WideShapes Go.ChangeAt Go.RowKit
set_option linter.unusedVariables false
set_option linter.unusedSimpArgs false

theorem boxes2r (w : World) (r : Pl.Rv) (k q : Hd) {W0 : World} (hW0 : (w.alloc (.cells #[.int .i64 r.s.n, .slice k.ua r.s.u.length k.uc, .slice k.la k.es.length k.lc, .int .i64 r.cap, .int .i64 r.shift, .int .i64 r.edge, .int .u32 r.recent, .bool r.stamps, .bool r.sacks, .int .i64 r.fin, .bool r.dn, .slice k.fa r.first.length k.fc, .int .u32 r.irs, .int .u32 r.own, .bool r.stamp] 27)).alloc (.cells #[.int .i64 r.s.n, .slice q.ua r.s.u.length q.uc, .slice q.la q.es.length q.lc, .int .i64 r.cap, .int .i64 r.shift, .int .i64 r.edge, .int .u32 r.recent, .bool r.stamps, .bool r.sacks, .int .i64 r.fin, .bool r.dn, .slice q.fa r.first.length q.fc, .int .u32 r.irs, .int .u32 r.own, .bool r.stamp] 27) = W0) : Box W0 w.heap.size 27 (rvL r k) ∧ Box W0 (w.heap.size + 1) 27 (rvL r q) ∧ W0.heap.size = w.heap.size + 2 ∧ Below w.heap.size w W0 := by
 rw [← hW0]
 have e : (w.alloc (.cells #[.int .i64 r.s.n, .slice k.ua r.s.u.length k.uc, .slice k.la k.es.length k.lc, .int .i64 r.cap, .int .i64 r.shift, .int .i64 r.edge, .int .u32 r.recent, .bool r.stamps, .bool r.sacks, .int .i64 r.fin, .bool r.dn, .slice k.fa r.first.length k.fc, .int .u32 r.irs, .int .u32 r.own, .bool r.stamp] 27)).heap.size = w.heap.size + 1 := by simp
 refine ⟨(Box.new w 27 [.int .i64 r.s.n, .slice k.ua r.s.u.length k.uc, .slice k.la k.es.length k.lc, .int .i64 r.cap, .int .i64 r.shift, .int .i64 r.edge, .int .u32 r.recent, .bool r.stamps, .bool r.sacks, .int .i64 r.fin, .bool r.dn, .slice k.fa r.first.length k.fc, .int .u32 r.irs, .int .u32 r.own, .bool r.stamp]).alloc _, ?_, by simp, zaa (zaa (Below.refl _ _) _) _⟩
 have := Box.new (w.alloc (.cells #[.int .i64 r.s.n, .slice k.ua r.s.u.length k.uc, .slice k.la k.es.length k.lc, .int .i64 r.cap, .int .i64 r.shift, .int .i64 r.edge, .int .u32 r.recent, .bool r.stamps, .bool r.sacks, .int .i64 r.fin, .bool r.dn, .slice k.fa r.first.length k.fc, .int .u32 r.irs, .int .u32 r.own, .bool r.stamp] 27)) 27 [.int .i64 r.s.n, .slice q.ua r.s.u.length q.uc, .slice q.la q.es.length q.lc, .int .i64 r.cap, .int .i64 r.shift, .int .i64 r.edge, .int .u32 r.recent, .bool r.stamps, .bool r.sacks, .int .i64 r.fin, .bool r.dn, .slice q.fa r.first.length q.fc, .int .u32 r.irs, .int .u32 r.own, .bool r.stamp]
 rw [e] at this
 exact this
set_option maxRecDepth 100000 in
set_option maxHeartbeats 4000000 in
theorem zfw (r : Pl.Rv) (k q : Hd) (w : World) (HA : RvAt w r k) (HB : RvAt w r q) : Calls Try.prog 16 #[.agg #[.int .i64 r.s.n, .slice k.ua r.s.u.length k.uc, .slice k.la k.es.length k.lc, .int .i64 r.cap, .int .i64 r.shift, .int .i64 r.edge, .int .u32 r.recent, .bool r.stamps, .bool r.sacks, .int .i64 r.fin, .bool r.dn, .slice k.fa r.first.length k.fc, .int .u32 r.irs, .int .u32 r.own, .bool r.stamp], .agg #[.int .i64 r.s.n, .slice q.ua r.s.u.length q.uc, .slice q.la q.es.length q.lc, .int .i64 r.cap, .int .i64 r.shift, .int .i64 r.edge, .int .u32 r.recent, .bool r.stamps, .bool r.sacks, .int .i64 r.fin, .bool r.dn, .slice q.fa r.first.length q.fc, .int .u32 r.irs, .int .u32 r.own, .bool r.stamp]] w fun e w' => e = .returned (.bool true) ∧ Below w.heap.size w w' := by
 obtain ⟨W0, hW0⟩ : ∃ W0, (w.alloc (.cells #[.int .i64 r.s.n, .slice k.ua r.s.u.length k.uc, .slice k.la k.es.length k.lc, .int .i64 r.cap, .int .i64 r.shift, .int .i64 r.edge, .int .u32 r.recent, .bool r.stamps, .bool r.sacks, .int .i64 r.fin, .bool r.dn, .slice k.fa r.first.length k.fc, .int .u32 r.irs, .int .u32 r.own, .bool r.stamp] 27)).alloc (.cells #[.int .i64 r.s.n, .slice q.ua r.s.u.length q.uc, .slice q.la q.es.length q.lc, .int .i64 r.cap, .int .i64 r.shift, .int .i64 r.edge, .int .u32 r.recent, .bool r.stamps, .bool r.sacks, .int .i64 r.fin, .bool r.dn, .slice q.fa r.first.length q.fc, .int .u32 r.irs, .int .u32 r.own, .bool r.stamp] 27) = W0 := ⟨_, rfl⟩
 obtain ⟨hX, hG, hs0, b0⟩ := boxes2r w r k q hW0
 obtain ⟨c0, c1, c2, c3, c4, c5, c6, c7, c8, c9, c10, c11, c12, c13, c14⟩ := Box.c15 hX
 obtain ⟨d0, d1, d2, d3, d4, d5, d6, d7, d8, d9, d10, d11, d12, d13, d14⟩ := Box.c15 hG
 have hes : k.es.length = q.es.length := by
  have e1 := congrArg List.length HA.les
  have e2 := congrArg List.length HB.les
  simp only [List.length_map] at e1 e2
  omega
 have HS : Hid (RvAt W0 r k ∧ RvAt W0 r q ∧ Below w.heap.size w W0 ∧ Box W0 w.heap.size 27 (rvL r k) ∧ Box W0 (w.heap.size + 1) 27 (rvL r q) ∧ k.es.length = q.es.length) := ⟨HA.later b0, HB.later b0, b0, hX, hG, hes⟩
 have k1 : Calls Try.prog 21 #[.slice k.ua r.s.u.length k.uc, .slice q.ua r.s.u.length q.uc] W0 fun e w' => e = .returned (.bool true) ∧ w' = W0 := by
  refine (zep k.ua q.ua k.uc q.uc r.s.u r.s.u W0 (HS.out.1.un.1) (HS.out.2.1.un.1)).mono ?_
  rintro e w' ⟨rfl, rfl⟩
  simp
 have g4 : ((k.es.length : Int) != (q.es.length : Int)) = false := by rw [hes]; simp
 have g5 : ((k.es.length : Int) == (q.es.length : Int)) = true := by rw [hes]; simp
 clear hX hG hs0 b0 HA HB hes
 go_enter Try.func16, Try.ntmps16
 go_wp2_with fail
 refine k1.mono ?_
 rintro e w' ⟨rfl, rfl⟩
 go_wp2_with fail
 clear c0 c1 c2 c3 c4 c5 c6 c7 c8 c9 c10 c11 c12 c13 c14 d0 d1 d2 d3 d4 d5 d6 d7 d8 d9 d10 d11 d12 d13 d14 g4 g5 k1 hW0
 have hb1 : k.es.length ≤ 140737488351232 := by have := HS.out.1.late.reach; omega
 have hb2 : r.first.length ≤ 140737488351232 := by have := HS.out.1.fst.reach; omega
 go_loopw [5] (fun vi wr => ∃ i : Nat, vi = .int .i64 (i : Int) ∧ i ≤ k.es.length ∧ Hid (Below w'.heap.size w' wr)) (fun vi _ => k.es.length - (intOf vi).toNat)
 case atStart => exact ⟨0, rfl, Nat.zero_le _, Below.refl _ _⟩
 case round =>
  obtain ⟨i, rfl, hi, HR⟩ := hrel
  have c2 := (HS.out.2.2.2.1.later HR.out).cell 2 rfl
  by_cases hlt : i < k.es.length
  · have hlt' : (i : Int) < (k.es.length : Int) := by omega
    have hlt2 : (i : Int) < (q.es.length : Int) := by have := HS.out.2.2.2.2.2; omega
    have d2 := (HS.out.2.2.2.2.1.later HR.out).cell 2 rfl
    have hAr := HS.out.1.later HR.out
    have hBr := HS.out.2.1.later HR.out
    obtain ⟨x, hx⟩ : ∃ x, k.es[i]? = some x := ⟨_, List.getElem?_eq_getElem hlt⟩
    obtain ⟨y, hy⟩ : ∃ y, q.es[i]? = some y := ⟨_, List.getElem?_eq_getElem (by have := HS.out.2.2.2.2.2; omega)⟩
    have hpc : x.pc = y.pc := by
     have e := hAr.les.trans hBr.les.symm
     have e2 := congrArg (fun l => l[i]?) e
     simp only [List.getElem?_map, hx, hy, Option.map_some, Option.some.injEq] at e2
     exact e2
    have hxf : x.f = y.f ∧ x.bs = y.bs := by unfold En.pc at hpc; injection hpc with e1 e2; exact ⟨e1, e2⟩
    obtain ⟨b, o, ka, e1, e2⟩ := hAr.late.ents i x hx
    obtain ⟨b', o', qa, e1', e2'⟩ := hBr.late.ents i y hy
    have okx := hAr.late.ok x (List.mem_of_getElem? hx)
    have oky := hBr.late.ok y (List.mem_of_getElem? hy)
    rw [ka] at c2
    rw [qa] at d2
    rw [← hxf.1] at e1'
    rw [← hxf.2] at e2'
    have HSm : Hid (∀ W, Below wr.heap.size wr W → Calls Try.prog 21 #[.slice x.a x.bs.length x.c, .slice y.a x.bs.length y.c] W fun e w' => e = .returned (.bool true) ∧ Below W.heap.size W w') := fun W hW => by
     refine (zep x.a y.a x.c y.c x.bs x.bs W (okx.1.1.later hW) (by have := oky.1.1; rw [← hxf.2] at this; exact this.later hW)).mono ?_
     rintro e w' ⟨rfl, rfl⟩
     simp only [decide_true]
     exact ⟨trivial, Below.refl _ _⟩
    obtain ⟨S, hS⟩ : ∃ S : World → Prop, S = fun W => W.cell? ⟨w.heap.size, 2, none⟩ = some (.slice (some ⟨b, o, none⟩) k.es.length k.lc) ∧ W.cell? ⟨w.heap.size + 1, 2, none⟩ = some (.slice (some ⟨b', o', none⟩) q.es.length q.lc) ∧ W.cell? ⟨b, o + i * 2, none⟩ = some (.int .i64 x.f) ∧ W.cell? ⟨b, o + i * 2 + 1, none⟩ = some (.slice x.a x.bs.length x.c) ∧ W.cell? ⟨b', o' + i * 2, none⟩ = some (.int .i64 x.f) ∧ W.cell? ⟨b', o' + i * 2 + 1, none⟩ = some (.slice y.a x.bs.length y.c) := ⟨_, rfl⟩
    have HSK : Hid (∀ W, Below wr.heap.size wr W → S W) := fun W hW => by
     rw [hS]
     exact ⟨(hW.cell (p := ⟨_, _, none⟩) (zac c2)).trans c2, (hW.cell (p := ⟨_, _, none⟩) (zac d2)).trans d2, (hW.cell (p := ⟨_, _, none⟩) (zac e1)).trans e1, (hW.cell (p := ⟨_, _, none⟩) (zac e2)).trans e2, (hW.cell (p := ⟨_, _, none⟩) (zac e1')).trans e1', (hW.cell (p := ⟨_, _, none⟩) (zac e2')).trans e2'⟩
    clear hAr hBr hpc hxf okx oky hx hy ka qa e1 e2 e1' e2' d2
    go_wp2_with fail
    as_aux_lemma =>
     obtain ⟨y0, y1, y2, y3, y4, y5, y6, y7, y8, y9, y10, y11, y12, y13, y14, y15, y16, y17, y18, y19, y20, y21, y22, y23, y24, y25, y27, y28⟩ : (∀ {ps} (ev : EV), ev (.tmp 2) = .pointer (some ⟨w.heap.size, 0, none⟩) → Yl Try.prog S ev { dst := some 120, op := .fieldAddr 27 (.tmp 2) 2, type := 0, pos := ps, after := #[], guard := none } ((.pointer (some ⟨w.heap.size, 2, none⟩)))) ∧ (∀ {ps} (ev : EV), ev (.tmp 120) = .pointer (some ⟨w.heap.size, 2, none⟩) → Yl Try.prog S ev { dst := some 121, op := .load 23 (.tmp 120), type := 23, pos := ps, after := #[{ on := 0, ground := .data }], guard := none } ((.slice (some ⟨b, o, none⟩) k.es.length k.lc))) ∧ (∀ {ps} (ev : EV), ev (.tmp 5) = .int .i64 (i : Int) → Yl Try.prog S ev { dst := some 122, op := .move (.tmp 5), type := 3, pos := ps, after := #[], guard := none } ((.int .i64 (i : Int)))) ∧ (∀ {ps} (ev : EV), ev (.tmp 121) = .slice (some ⟨b, o, none⟩) k.es.length k.lc → ev (.tmp 122) = .int .i64 (i : Int) → Yl Try.prog S ev { dst := some 123, op := .indexAddr 23 (.tmp 121) (.tmp 122), type := 0, pos := ps, after := #[{ on := 1, ground := .data }, { on := 2, ground := .data }], guard := none } ((.pointer (some ⟨b, o + i * 2, none⟩)))) ∧ (∀ {ps} (ev : EV), ev (.tmp 123) = .pointer (some ⟨b, o + i * 2, none⟩) → Yl Try.prog S ev { dst := some 124, op := .fieldAddr 74 (.tmp 123) 0, type := 0, pos := ps, after := #[{ on := 3, ground := .data }], guard := none } ((.pointer (some ⟨b, o + i * 2, none⟩)))) ∧ (∀ {ps} (ev : EV), ev (.tmp 124) = .pointer (some ⟨b, o + i * 2, none⟩) → Yl Try.prog S ev { dst := some 125, op := .load 3 (.tmp 124), type := 3, pos := ps, after := #[{ on := 4, ground := .data }], guard := none } ((.int .i64 x.f))) ∧ (∀ {ps} (ev : EV), ev (.tmp 3) = .pointer (some ⟨w.heap.size + 1, 0, none⟩) → Yl Try.prog S ev { dst := some 126, op := .fieldAddr 27 (.tmp 3) 2, type := 0, pos := ps, after := #[], guard := none } ((.pointer (some ⟨w.heap.size + 1, 2, none⟩)))) ∧ (∀ {ps} (ev : EV), ev (.tmp 126) = .pointer (some ⟨w.heap.size + 1, 2, none⟩) → Yl Try.prog S ev { dst := some 127, op := .load 23 (.tmp 126), type := 23, pos := ps, after := #[{ on := 6, ground := .data }], guard := none } ((.slice (some ⟨b', o', none⟩) q.es.length q.lc))) ∧ (∀ {ps} (ev : EV), ev (.tmp 5) = .int .i64 (i : Int) → Yl Try.prog S ev { dst := some 128, op := .move (.tmp 5), type := 3, pos := ps, after := #[], guard := none } ((.int .i64 (i : Int)))) ∧ (∀ {ps} (ev : EV), ev (.tmp 127) = .slice (some ⟨b', o', none⟩) q.es.length q.lc → ev (.tmp 128) = .int .i64 (i : Int) → Yl Try.prog S ev { dst := some 129, op := .indexAddr 23 (.tmp 127) (.tmp 128), type := 0, pos := ps, after := #[{ on := 7, ground := .data }, { on := 8, ground := .data }], guard := none } ((.pointer (some ⟨b', o' + i * 2, none⟩)))) ∧ (∀ {ps} (ev : EV), ev (.tmp 129) = .pointer (some ⟨b', o' + i * 2, none⟩) → Yl Try.prog S ev { dst := some 130, op := .fieldAddr 74 (.tmp 129) 0, type := 0, pos := ps, after := #[{ on := 9, ground := .data }], guard := none } ((.pointer (some ⟨b', o' + i * 2, none⟩)))) ∧ (∀ {ps} (ev : EV), ev (.tmp 130) = .pointer (some ⟨b', o' + i * 2, none⟩) → Yl Try.prog S ev { dst := some 131, op := .load 3 (.tmp 130), type := 3, pos := ps, after := #[{ on := 10, ground := .data }], guard := none } ((.int .i64 x.f))) ∧ (∀ {ps} (ev : EV), ev (.tmp 125) = .int .i64 x.f → ev (.tmp 131) = .int .i64 x.f → Yl Try.prog S ev { dst := some 132, op := .binOp .neq 3 (.tmp 125) (.tmp 131) 3, type := 4, pos := ps, after := #[{ on := 5, ground := .data }, { on := 11, ground := .data }], guard := none } ((.bool false))) ∧ (∀ {ps} (ev : EV), ev (.tmp 132) = .bool false → Yl Try.prog S ev { dst := some 133, op := .move (.tmp 132), type := 4, pos := ps, after := #[{ on := 12, ground := .data }], guard := none } ((.bool false))) ∧ (∀ {ps} (ev : EV), ev (.tmp 2) = .pointer (some ⟨w.heap.size, 0, none⟩) → Yl Try.prog S ev { dst := some 134, op := .fieldAddr 27 (.tmp 2) 2, type := 0, pos := ps, after := #[{ on := 13, ground := .guard }], guard := some (13, false) } ((.pointer (some ⟨w.heap.size, 2, none⟩)))) ∧ (∀ {ps} (ev : EV), ev (.tmp 134) = .pointer (some ⟨w.heap.size, 2, none⟩) → Yl Try.prog S ev { dst := some 135, op := .load 23 (.tmp 134), type := 23, pos := ps, after := #[{ on := 14, ground := .data }, { on := 13, ground := .guard }], guard := some (13, false) } ((.slice (some ⟨b, o, none⟩) k.es.length k.lc))) ∧ (∀ {ps} (ev : EV), ev (.tmp 5) = .int .i64 (i : Int) → Yl Try.prog S ev { dst := some 136, op := .move (.tmp 5), type := 3, pos := ps, after := #[{ on := 13, ground := .guard }], guard := some (13, false) } ((.int .i64 (i : Int)))) ∧ (∀ {ps} (ev : EV), ev (.tmp 135) = .slice (some ⟨b, o, none⟩) k.es.length k.lc → ev (.tmp 136) = .int .i64 (i : Int) → Yl Try.prog S ev { dst := some 137, op := .indexAddr 23 (.tmp 135) (.tmp 136), type := 0, pos := ps, after := #[{ on := 15, ground := .data }, { on := 16, ground := .data }, { on := 13, ground := .guard }], guard := some (13, false) } ((.pointer (some ⟨b, o + i * 2, none⟩)))) ∧ (∀ {ps} (ev : EV), ev (.tmp 137) = .pointer (some ⟨b, o + i * 2, none⟩) → Yl Try.prog S ev { dst := some 138, op := .fieldAddr 74 (.tmp 137) 1, type := 0, pos := ps, after := #[{ on := 17, ground := .data }, { on := 13, ground := .guard }], guard := some (13, false) } ((.pointer (some ⟨b, o + i * 2 + 1, none⟩)))) ∧ (∀ {ps} (ev : EV), ev (.tmp 138) = .pointer (some ⟨b, o + i * 2 + 1, none⟩) → Yl Try.prog S ev { dst := some 139, op := .load 22 (.tmp 138), type := 22, pos := ps, after := #[{ on := 18, ground := .data }, { on := 13, ground := .guard }], guard := some (13, false) } ((.slice x.a x.bs.length x.c))) ∧ (∀ {ps} (ev : EV), ev (.tmp 3) = .pointer (some ⟨w.heap.size + 1, 0, none⟩) → Yl Try.prog S ev { dst := some 140, op := .fieldAddr 27 (.tmp 3) 2, type := 0, pos := ps, after := #[{ on := 13, ground := .guard }], guard := some (13, false) } ((.pointer (some ⟨w.heap.size + 1, 2, none⟩)))) ∧ (∀ {ps} (ev : EV), ev (.tmp 140) = .pointer (some ⟨w.heap.size + 1, 2, none⟩) → Yl Try.prog S ev { dst := some 141, op := .load 23 (.tmp 140), type := 23, pos := ps, after := #[{ on := 20, ground := .data }, { on := 13, ground := .guard }], guard := some (13, false) } ((.slice (some ⟨b', o', none⟩) q.es.length q.lc))) ∧ (∀ {ps} (ev : EV), ev (.tmp 5) = .int .i64 (i : Int) → Yl Try.prog S ev { dst := some 142, op := .move (.tmp 5), type := 3, pos := ps, after := #[{ on := 13, ground := .guard }], guard := some (13, false) } ((.int .i64 (i : Int)))) ∧ (∀ {ps} (ev : EV), ev (.tmp 141) = .slice (some ⟨b', o', none⟩) q.es.length q.lc → ev (.tmp 142) = .int .i64 (i : Int) → Yl Try.prog S ev { dst := some 143, op := .indexAddr 23 (.tmp 141) (.tmp 142), type := 0, pos := ps, after := #[{ on := 21, ground := .data }, { on := 22, ground := .data }, { on := 13, ground := .guard }], guard := some (13, false) } ((.pointer (some ⟨b', o' + i * 2, none⟩)))) ∧ (∀ {ps} (ev : EV), ev (.tmp 143) = .pointer (some ⟨b', o' + i * 2, none⟩) → Yl Try.prog S ev { dst := some 144, op := .fieldAddr 74 (.tmp 143) 1, type := 0, pos := ps, after := #[{ on := 23, ground := .data }, { on := 13, ground := .guard }], guard := some (13, false) } ((.pointer (some ⟨b', o' + i * 2 + 1, none⟩)))) ∧ (∀ {ps} (ev : EV), ev (.tmp 144) = .pointer (some ⟨b', o' + i * 2 + 1, none⟩) → Yl Try.prog S ev { dst := some 145, op := .load 22 (.tmp 144), type := 22, pos := ps, after := #[{ on := 24, ground := .data }, { on := 13, ground := .guard }], guard := some (13, false) } ((.slice y.a x.bs.length y.c))) ∧ (∀ {ps} (ev : EV), ev (.tmp 146) = .bool true → Yl Try.prog S ev { dst := some 147, op := .unOp .not 4 (.tmp 146), type := 4, pos := ps, after := #[{ on := 26, ground := .data }, { on := 13, ground := .guard }], guard := some (13, false) } ((.bool false))) ∧ (∀ {ps} (ev : EV), ev (.tmp 133) = .bool false → ev (.const (Go.Value.bool true)) = (Go.Value.bool true) → ev (.tmp 147) = .bool false → Yl Try.prog S ev { dst := some 148, op := .pick (.tmp 133) (.const (.bool true)) (.tmp 147), type := 4, pos := ps, after := #[{ on := 13, ground := .data }, { on := 27, ground := .data }], guard := none } ((.bool false))) := by
      refine ⟨?_, ?_, ?_, ?_, ?_, ?_, ?_, ?_, ?_, ?_, ?_, ?_, ?_, ?_, ?_, ?_, ?_, ?_, ?_, ?_, ?_, ?_, ?_, ?_, ?_, ?_, ?_, ?_⟩ <;> (intros; intro W hSw; rw [hS] at hSw; (try dsimp only at hSw); go_simp <;> with_reducible rfl)
     refine zdf (fun W' => S W' ∧ Below wr.heap.size wr W') (by kernel_rfl) (by kernel_rfl) ?hC ?_
     case hC => exact ⟨HSK.out _ (Below.drew (Below.refl _ _)), Below.drew (Below.refl _ _)⟩
     refine zag (by kernel_rfl) (fun W hW => y0 _ rfl W hW.1) ?_
     try simp only [Act.put, qA, qZ, qS]
     refine zag (by kernel_rfl) (fun W hW => y1 _ rfl W hW.1) ?_
     try simp only [Act.put, qA, qZ, qS]
     refine zag (by kernel_rfl) (fun W hW => y2 _ rfl W hW.1) ?_
     try simp only [Act.put, qA, qZ, qS]
     refine zag (by kernel_rfl) (fun W hW => y3 _ rfl rfl W hW.1) ?_
     try simp only [Act.put, qA, qZ, qS]
     refine zag (by kernel_rfl) (fun W hW => y4 _ rfl W hW.1) ?_
     try simp only [Act.put, qA, qZ, qS]
     refine zag (by kernel_rfl) (fun W hW => y5 _ rfl W hW.1) ?_
     try simp only [Act.put, qA, qZ, qS]
     refine zag (by kernel_rfl) (fun W hW => y6 _ rfl W hW.1) ?_
     try simp only [Act.put, qA, qZ, qS]
     refine zag (by kernel_rfl) (fun W hW => y7 _ rfl W hW.1) ?_
     try simp only [Act.put, qA, qZ, qS]
     refine zag (by kernel_rfl) (fun W hW => y8 _ rfl W hW.1) ?_
     try simp only [Act.put, qA, qZ, qS]
     refine zag (by kernel_rfl) (fun W hW => y9 _ rfl rfl W hW.1) ?_
     try simp only [Act.put, qA, qZ, qS]
     refine zag (by kernel_rfl) (fun W hW => y10 _ rfl W hW.1) ?_
     try simp only [Act.put, qA, qZ, qS]
     refine zag (by kernel_rfl) (fun W hW => y11 _ rfl W hW.1) ?_
     try simp only [Act.put, qA, qZ, qS]
     refine zag (by kernel_rfl) (fun W hW => y12 _ rfl rfl W hW.1) ?_
     try simp only [Act.put, qA, qZ, qS]
     refine zag (by kernel_rfl) (fun W hW => y13 _ rfl W hW.1) ?_
     try simp only [Act.put, qA, qZ, qS]
     refine zag (by kernel_rfl) (fun W hW => y14 _ rfl W hW.1) ?_
     try simp only [Act.put, qA, qZ, qS]
     refine zag (by kernel_rfl) (fun W hW => y15 _ rfl W hW.1) ?_
     try simp only [Act.put, qA, qZ, qS]
     refine zag (by kernel_rfl) (fun W hW => y16 _ rfl W hW.1) ?_
     try simp only [Act.put, qA, qZ, qS]
     refine zag (by kernel_rfl) (fun W hW => y17 _ rfl rfl W hW.1) ?_
     try simp only [Act.put, qA, qZ, qS]
     refine zag (by kernel_rfl) (fun W hW => y18 _ rfl W hW.1) ?_
     try simp only [Act.put, qA, qZ, qS]
     refine zag (by kernel_rfl) (fun W hW => y19 _ rfl W hW.1) ?_
     try simp only [Act.put, qA, qZ, qS]
     refine zag (by kernel_rfl) (fun W hW => y20 _ rfl W hW.1) ?_
     try simp only [Act.put, qA, qZ, qS]
     refine zag (by kernel_rfl) (fun W hW => y21 _ rfl W hW.1) ?_
     try simp only [Act.put, qA, qZ, qS]
     refine zag (by kernel_rfl) (fun W hW => y22 _ rfl W hW.1) ?_
     try simp only [Act.put, qA, qZ, qS]
     refine zag (by kernel_rfl) (fun W hW => y23 _ rfl rfl W hW.1) ?_
     try simp only [Act.put, qA, qZ, qS]
     refine zag (by kernel_rfl) (fun W hW => y24 _ rfl W hW.1) ?_
     try simp only [Act.put, qA, qZ, qS]
     refine zag (by kernel_rfl) (fun W hW => y25 _ rfl W hW.1) ?_
     try simp only [Act.put, qA, qZ, qS]
     refine zgn (v := .bool true) (f := 21) (args := #[.slice x.a x.bs.length x.c, .slice y.a x.bs.length y.c]) (by kernel_rfl) ?hy26q1 ?hc26q1 ?rest26q1
     case hy26q1 => (intro w hSw; (try dsimp only at hSw); first | (go_simp; done) | (go_simp; with_reducible rfl))
     case hc26q1 => (intro w hSw; refine (HSm.out w hSw.2).mono ?_; rintro e w1 ⟨rfl, hB⟩; exact ⟨rfl, HSK.out _ (Below.on hSw.2 hB), Below.on hSw.2 hB⟩)
     try simp only [Act.put, qA, qZ, qS]
     refine zag (by kernel_rfl) (fun W hW => y27 _ rfl W hW.1) ?_
     try simp only [Act.put, qA, qZ, qS]
     refine zag (by kernel_rfl) (fun W hW => y28 _ rfl rfl rfl W hW.1) ?_
     try simp only [Act.put, qA, qZ, qS]
     refine zcf ?_
     intro W5 hC5
     have HB5 : Hid (Below w'.heap.size w' W5) := Below.on HR.out hC5.2
     clear y0 y1 y2 y3 y4 y5 y6 y7 y8 y9 y10 y11 y12 y13 y14 y15 y16 y17 y18 y19 y20 y21 y22 y23 y24 y25 y27 y28 hC5 HSm HSK HR c2
     go_wp2_with fail
     go_roundw
     case rel => exact ⟨i + 1, by go_num, by omega, HB5⟩
     case measure => simp [intOf]; omega
  · obtain rfl : i = k.es.length := by omega
    have hge : ¬ ((k.es.length : Int) < (k.es.length : Int)) := by omega
    go_wp2_with fail
    clear c2 hge hi
    go_loopw [6] (fun vj wq => ∃ j : Nat, vj = .int .i64 (j : Int) ∧ j ≤ r.first.length ∧ Hid (Below w'.heap.size w' wq)) (fun vj _ => r.first.length - (intOf vj).toNat)
    case atStart => exact ⟨0, rfl, Nat.zero_le _, HR⟩
    case round =>
     clear HR
     obtain ⟨j, rfl, hj, HR⟩ := hrel
     have c2 := (HS.out.2.2.2.1.later HR.out).cell 11 rfl
     by_cases hlt : j < r.first.length
     · have hlt' : (j : Int) < (r.first.length : Int) := by omega
       have d2 := (HS.out.2.2.2.2.1.later HR.out).cell 11 rfl
       obtain ⟨b, o, ka, e1, e2⟩ := (HS.out.1.later HR.out).fst.tims.2 j hlt
       obtain ⟨b', o', qa, e1', e2'⟩ := (HS.out.2.1.later HR.out).fst.tims.2 j hlt
       rw [ka] at c2
       rw [qa] at d2
       obtain ⟨f, hf⟩ : ∃ f, (r.first[j]?.getD (0, 0)).1 = f := ⟨_, rfl⟩
       obtain ⟨t, ht⟩ : ∃ t, (r.first[j]?.getD (0, 0)).2 = t := ⟨_, rfl⟩
       rw [hf] at e1 e1'
       rw [ht] at e2 e2'
       obtain ⟨S, hS⟩ : ∃ S : World → Prop, S = fun W => W.cell? ⟨w.heap.size, 11, none⟩ = some (.slice (some ⟨b, o, none⟩) r.first.length k.fc) ∧ W.cell? ⟨w.heap.size + 1, 11, none⟩ = some (.slice (some ⟨b', o', none⟩) r.first.length q.fc) ∧ W.cell? ⟨b, o + j * 2, none⟩ = some (.int .i64 f) ∧ W.cell? ⟨b, o + j * 2 + 1, none⟩ = some (.int .i64 t) ∧ W.cell? ⟨b', o' + j * 2, none⟩ = some (.int .i64 f) ∧ W.cell? ⟨b', o' + j * 2 + 1, none⟩ = some (.int .i64 t) := ⟨_, rfl⟩
       have HSK : Hid (∀ W, Below wr.heap.size wr W → S W) := fun W hW => by
        rw [hS]
        exact ⟨(hW.cell (p := ⟨_, _, none⟩) (zac c2)).trans c2, (hW.cell (p := ⟨_, _, none⟩) (zac d2)).trans d2, (hW.cell (p := ⟨_, _, none⟩) (zac e1)).trans e1, (hW.cell (p := ⟨_, _, none⟩) (zac e2)).trans e2, (hW.cell (p := ⟨_, _, none⟩) (zac e1')).trans e1', (hW.cell (p := ⟨_, _, none⟩) (zac e2')).trans e2'⟩
       clear ka qa e1 e2 e1' e2' d2 hf ht
       go_wp2_with fail
       as_aux_lemma =>
        obtain ⟨y0, y1, y2, y3, y4, y5, y6, y7, y8, y9, y10⟩ : (∀ {ps} (ev : EV), ev (.tmp 2) = .pointer (some ⟨w.heap.size, 0, none⟩) → Yl Try.prog S ev { dst := some 156, op := .fieldAddr 27 (.tmp 2) 11, type := 0, pos := ps, after := #[], guard := none } ((.pointer (some ⟨w.heap.size, 11, none⟩)))) ∧ (∀ {ps} (ev : EV), ev (.tmp 156) = .pointer (some ⟨w.heap.size, 11, none⟩) → Yl Try.prog S ev { dst := some 157, op := .load 25 (.tmp 156), type := 25, pos := ps, after := #[{ on := 0, ground := .data }], guard := none } ((.slice (some ⟨b, o, none⟩) r.first.length k.fc))) ∧ (∀ {ps} (ev : EV), ev (.tmp 6) = .int .i64 (j : Int) → Yl Try.prog S ev { dst := some 158, op := .move (.tmp 6), type := 3, pos := ps, after := #[], guard := none } ((.int .i64 (j : Int)))) ∧ (∀ {ps} (ev : EV), ev (.tmp 157) = .slice (some ⟨b, o, none⟩) r.first.length k.fc → ev (.tmp 158) = .int .i64 (j : Int) → Yl Try.prog S ev { dst := some 159, op := .indexAddr 25 (.tmp 157) (.tmp 158), type := 0, pos := ps, after := #[{ on := 1, ground := .data }, { on := 2, ground := .data }], guard := none } ((.pointer (some ⟨b, o + j * 2, none⟩)))) ∧ (∀ {ps} (ev : EV), ev (.tmp 159) = .pointer (some ⟨b, o + j * 2, none⟩) → Yl Try.prog S ev { dst := some 160, op := .load 78 (.tmp 159), type := 78, pos := ps, after := #[{ on := 3, ground := .data }], guard := none } ((.agg #[.int .i64 f, .int .i64 t]))) ∧ (∀ {ps} (ev : EV), ev (.tmp 3) = .pointer (some ⟨w.heap.size + 1, 0, none⟩) → Yl Try.prog S ev { dst := some 161, op := .fieldAddr 27 (.tmp 3) 11, type := 0, pos := ps, after := #[], guard := none } ((.pointer (some ⟨w.heap.size + 1, 11, none⟩)))) ∧ (∀ {ps} (ev : EV), ev (.tmp 161) = .pointer (some ⟨w.heap.size + 1, 11, none⟩) → Yl Try.prog S ev { dst := some 162, op := .load 25 (.tmp 161), type := 25, pos := ps, after := #[{ on := 5, ground := .data }], guard := none } ((.slice (some ⟨b', o', none⟩) r.first.length q.fc))) ∧ (∀ {ps} (ev : EV), ev (.tmp 6) = .int .i64 (j : Int) → Yl Try.prog S ev { dst := some 163, op := .move (.tmp 6), type := 3, pos := ps, after := #[], guard := none } ((.int .i64 (j : Int)))) ∧ (∀ {ps} (ev : EV), ev (.tmp 162) = .slice (some ⟨b', o', none⟩) r.first.length q.fc → ev (.tmp 163) = .int .i64 (j : Int) → Yl Try.prog S ev { dst := some 164, op := .indexAddr 25 (.tmp 162) (.tmp 163), type := 0, pos := ps, after := #[{ on := 6, ground := .data }, { on := 7, ground := .data }], guard := none } ((.pointer (some ⟨b', o' + j * 2, none⟩)))) ∧ (∀ {ps} (ev : EV), ev (.tmp 164) = .pointer (some ⟨b', o' + j * 2, none⟩) → Yl Try.prog S ev { dst := some 165, op := .load 78 (.tmp 164), type := 78, pos := ps, after := #[{ on := 8, ground := .data }], guard := none } ((.agg #[.int .i64 f, .int .i64 t]))) ∧ (∀ {ps} (ev : EV), ev (.tmp 160) = .agg #[.int .i64 f, .int .i64 t] → ev (.tmp 165) = .agg #[.int .i64 f, .int .i64 t] → Yl Try.prog S ev { dst := some 166, op := .binOp .neq 78 (.tmp 160) (.tmp 165) 78, type := 4, pos := ps, after := #[{ on := 4, ground := .data }, { on := 9, ground := .data }], guard := none } ((.bool false))) := by
         refine ⟨?_, ?_, ?_, ?_, ?_, ?_, ?_, ?_, ?_, ?_, ?_⟩ <;> (intros; intro W hSw; rw [hS] at hSw; (try dsimp only at hSw); go_simp <;> with_reducible rfl)
        refine zdf (fun W' => S W' ∧ Below wr.heap.size wr W') (by kernel_rfl) (by kernel_rfl) ?hC ?_
        case hC => exact ⟨HSK.out _ (Below.drew (Below.refl _ _)), Below.drew (Below.refl _ _)⟩
        refine zag (by kernel_rfl) (fun W hW => y0 _ rfl W hW.1) ?_
        try simp only [Act.put, qA, qZ, qS]
        refine zag (by kernel_rfl) (fun W hW => y1 _ rfl W hW.1) ?_
        try simp only [Act.put, qA, qZ, qS]
        refine zag (by kernel_rfl) (fun W hW => y2 _ rfl W hW.1) ?_
        try simp only [Act.put, qA, qZ, qS]
        refine zag (by kernel_rfl) (fun W hW => y3 _ rfl rfl W hW.1) ?_
        try simp only [Act.put, qA, qZ, qS]
        refine zag (by kernel_rfl) (fun W hW => y4 _ rfl W hW.1) ?_
        try simp only [Act.put, qA, qZ, qS]
        refine zag (by kernel_rfl) (fun W hW => y5 _ rfl W hW.1) ?_
        try simp only [Act.put, qA, qZ, qS]
        refine zag (by kernel_rfl) (fun W hW => y6 _ rfl W hW.1) ?_
        try simp only [Act.put, qA, qZ, qS]
        refine zag (by kernel_rfl) (fun W hW => y7 _ rfl W hW.1) ?_
        try simp only [Act.put, qA, qZ, qS]
        refine zag (by kernel_rfl) (fun W hW => y8 _ rfl rfl W hW.1) ?_
        try simp only [Act.put, qA, qZ, qS]
        refine zag (by kernel_rfl) (fun W hW => y9 _ rfl W hW.1) ?_
        try simp only [Act.put, qA, qZ, qS]
        refine zag (by kernel_rfl) (fun W hW => y10 _ rfl rfl W hW.1) ?_
        try simp only [Act.put, qA, qZ, qS]
        refine zcf ?_
        intro W5 hC5
        have HB5 : Hid (Below w'.heap.size w' W5) := Below.on HR.out hC5.2
        clear y0 y1 y2 y3 y4 y5 y6 y7 y8 y9 y10 hC5 HSK HR c2
        go_wp2_with fail
        go_roundw
        case rel => exact ⟨j + 1, by go_num, by omega, HB5⟩
        case measure => simp [intOf]; omega
     · obtain rfl : j = r.first.length := by omega
       have hge : ¬ ((r.first.length : Int) < (r.first.length : Int)) := by omega
       go_wp2_with fail
       go_ret
       exact ⟨rfl, Below.on HS.out.2.2.1 HR.out⟩
end Go.Proofs.Ytkigcdmlkmcdcaa

