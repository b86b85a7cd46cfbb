/- The document's Read. -/
import Derived.Test.YtkigcdmlkmcdcaaZ
import Derived.Test.YtkigcdmlkmcdcaaMRefRdA
namespace Go.Proofs.Ytkigcdmlkmcdcaa
open Go.ChangeShapes Go.WideShapes Go.ChangeAt Go.RowKit
set_option linter.unusedVariables false
set_option linter.unusedSimpArgs false

set_option maxRecDepth 100000 in
set_option maxHeartbeats 16000000 in
theorem refRead_ok (r : Pl.Rv) (h : Hd) (n : Int) (w : World) (H : RvAt w r h) (hok : r.Ok) (hn : I64 n) :
 Calls Try.prog 19 #[.agg #[.int .i64 r.s.n, .slice h.ua r.s.u.length h.uc, .slice h.la h.es.length h.lc, .int .i64 r.cap, .int .i64 r.shift, .int .i64 r.edge, .int .u32 r.recent, .bool r.stamps, .bool r.sacks, .int .i64 r.fin, .bool r.dn, .slice h.fa r.first.length h.fc, .int .u32 r.irs, .int .u32 r.own, .bool r.stamp], .int .i64 n] w fun e w' => ∃ (k : Hd) (da : Option Addr) (dc : Nat) (ks : Hs), e = .returned (.tuple #[.agg #[.int .i64 (Pl.readR r n).s.n, .slice k.ua (Pl.readR r n).s.u.length k.uc, .slice k.la k.es.length k.lc, .int .i64 (Pl.readR r n).cap, .int .i64 (Pl.readR r n).shift, .int .i64 (Pl.readR r n).edge, .int .u32 (Pl.readR r n).recent, .bool (Pl.readR r n).stamps, .bool (Pl.readR r n).sacks, .int .i64 (Pl.readR r n).fin, .bool (Pl.readR r n).dn, .slice k.fa (Pl.readR r n).first.length k.fc, .int .u32 (Pl.readR r n).irs, .int .u32 (Pl.readR r n).own, .bool (Pl.readR r n).stamp], .slice da (Pl.rdN r n) dc, .agg #[.int .i64 (readS r n).sp, .int .i64 (readS r n).dp, .int .u32 (readS r n).sq, .int .u32 (readS r n).ak, .int .i64 (readS r n).fl, .int .i64 (readS r n).wn, .int .i64 (readS r n).ur, .int .i64 (readS r n).ms, .int .i64 (readS r n).sc, .bool (readS r n).so, .bool (readS r n).st, .int .u32 (readS r n).va, .int .u32 (readS r n).ec, .slice ks.ka (readS r n).sk.length ks.kc, .slice ks.da (readS r n).da.length ks.dc], .bool (Pl.rdB r n), .int .i64 0]) ∧ RvAt w' (Pl.readR r n) k ∧ SlAt w' da dc (r.s.u.take (Pl.rdN r n)) ∧ SgOwn w' w.heap.size (readS r n) ks ∧ Below w.heap.size w w' := by
 obtain ⟨W0, hW0⟩ : ∃ W0, ((w.alloc (.cells #[.int .i64 r.s.n, .slice h.ua r.s.u.length h.uc, .slice h.la h.es.length h.lc, .int .i64 r.cap, .int .i64 r.shift, .int .i64 r.edge, .int .u32 r.recent, .bool r.stamps, .bool r.sacks, .int .i64 r.fin, .bool r.dn, .slice h.fa r.first.length h.fc, .int .u32 r.irs, .int .u32 r.own, .bool r.stamp] 27)).alloc (.cells zR.toArray 27)).alloc (.cells zS.toArray 34) = W0 := ⟨_, rfl⟩
 obtain ⟨hX, hZ, hZS, hs0, b0⟩ : Box W0 w.heap.size 27 (rvL r h) ∧ Box W0 (w.heap.size + 1) 27 zR ∧ Box W0 (w.heap.size + 1 + 1) 34 zS ∧ W0.heap.size = w.heap.size + 3 ∧ Below w.heap.size w W0 := by rw [← hW0]; exact zdl w (rvL r h)
 have HX : Hid (Box W0 w.heap.size 27 (rvL r h) ∧ Box W0 (w.heap.size + 1) 27 zR ∧ Box W0 (w.heap.size + 1 + 1) 34 zS ∧ Below w.heap.size w W0 ∧ W0.heap.size = w.heap.size + 3) := ⟨hX, hZ, hZS, b0, hs0⟩
 have HH : Hid (RvAt w r h ∧ r.Ok) := ⟨H, hok⟩
 have cC := zfc r h W0 (H.later b0) hok
 have hNle := Pl.cut_len r n
 have hur := H.un.1.1
 have hrd := rd_int r n
 obtain ⟨N, hN⟩ : ∃ N, Pl.rdN r n = N := ⟨_, rfl⟩
 have HN : Hid (Pl.rdN r n = N) := hN
 rw [hN] at hNle hrd
 obtain ⟨U, hU⟩ : ∃ U, r.s.u.length = U := ⟨_, rfl⟩
 have HU : Hid (r.s.u.length = U) := hU
 rw [hU] at hNle hur hrd
 obtain ⟨mx, hmx⟩ : ∃ mx : Int, (if n < 0 then 0 else n) = mx := ⟨_, rfl⟩
 have hmn : (if (U : Int) < mx then (U : Int) else mx) = (N : Int) := by
  have h1 := Pl.max_ge n 0
  have h2 := Pl.min_le (Pl.maxJ n 0) (U : Int)
  have h3 : mx = Pl.maxJ n 0 := by rw [← hmx]; split <;> omega
  rw [h3, ← hrd]
  split <;> omega
 obtain ⟨c0, c1, c2, c3, c4, c5, c6, c7, c8, c9, c10, c11, c12, c13, c14⟩ := Box.c15 hX
 clear hX hZ hZS hs0 b0 H hok hN hU hrd
 go_enter Try.func19, Try.ntmps19
 go_wp2_with fail
 refine cC.mono ?_
 rintro e w1 ⟨rfl, hB1⟩
 have HB1 : Hid (Below w.heap.size w w1 ∧ Below W0.heap.size W0 w1) := ⟨Below.on HX.out.2.2.2.1 hB1, hB1⟩
 clear c0 c1 c2 c3 c4 c5 c6 c7 c8 c9 c10 c11 c12 c13 c14 cC hW0 hB1
 obtain ⟨c0, c1, c2, c3, c4, c5, c6, c7, c8, c9, c10, c11, c12, c13, c14⟩ := Box.c15 (HX.out.1.later HB1.out.2)
 go_wp2_with fail
 refine (zfb r h w1 (HH.out.1.later HB1.out.1)).mono ?_
 rintro e w2 ⟨⟨ua, uc, la, lc, es, fa, fc⟩, rfl, hO, hB2⟩
 clear c0 c1 c2 c3 c4 c5 c6 c7 c8 c9 c10 c11 c12 c13 c14
 have hx2 := (HX.out.1.later HB1.out.2).later hB2
 have H2 : Hid (Box w2 w.heap.size 27 (rvL r h) ∧ Box w2 (w.heap.size + 1) 27 zR ∧ Box w2 (w.heap.size + 1 + 1) 34 zS ∧ RvOwn w2 (w.heap.size + 3) r ⟨ua, uc, la, lc, es, fa, fc⟩ ∧ w.heap.size + 3 ≤ w2.heap.size ∧ Below w.heap.size w w2 ∧ U ≤ uc) := by
  have h1 := HB1.out.2.size
  have h2 := HX.out.2.2.2.2
  have h3 := hB2.size
  exact ⟨hx2, (HX.out.2.1.later HB1.out.2).later hB2, (HX.out.2.2.1.later HB1.out.2).later hB2, hO.mono (by omega), by omega, Below.on HB1.out.1 hB2, by
   have := (hO.fam.mine _ (List.mem_cons_self ..)).row.max.1
   rw [HU.out] at this
   exact this⟩
 obtain ⟨c0, c1, c2, c3, c4, c5, c6, c7, c8, c9, c10, c11, c12, c13, c14⟩ := Box.c15 hx2
 obtain ⟨f0, f1, f2, f3, f4, f5, f6, f7, f8, f9, f10, f11, f12, f13, f14⟩ := Box.f15 hx2
 clear hx2 hO hB2 HX HB1
 go_upto_region 4 with fail
 clear c0 c1 c2 c3 c4 c5 c6 c7 c8 c9 c10 c11 c12 c13 c14 f0 f1 f2 f3 f4 f5 f6 f7 f8 f9 f10 f11 f12 f13 f14
 obtain ⟨V3, hV3⟩ : ∃ V3, setAll w2 w.heap.size 0 (rvL r ⟨ua, uc, la, lc, es, fa, fc⟩) = V3 := ⟨_, rfl⟩
 refine zge hV3 ?_
 have b3 : Box V3 w.heap.size 27 (rvL r ⟨ua, uc, la, lc, es, fa, fc⟩) := by rw [← hV3]; exact H2.out.1.put _ rfl
 have HV3 : Hid (setAll w2 w.heap.size 0 (rvL r ⟨ua, uc, la, lc, es, fa, fc⟩) = V3 ∧ Box V3 w.heap.size 27 (rvL r ⟨ua, uc, la, lc, es, fa, fc⟩)) := ⟨hV3, b3⟩
 have v1 : V3.cell? ⟨w.heap.size, 1, none⟩ = some (.slice ua U uc) := by have := b3.cell 1 rfl; rw [HU.out] at this; exact this
 have hMu := H2.out.2.2.2.2.2.2
 clear hV3 b3
 as_aux_lemma =>
  go_upto_region 5 with fail
  clear hmx hmn v1
  obtain ⟨X5, hX5⟩ : ∃ X5, V3.alloc (.cells #[] 5) = X5 := ⟨_, rfl⟩
  have HX5 : Hid (Below V3.heap.size V3 X5 ∧ Row X5 V3.heap.size (some ⟨V3.heap.size, 0, none⟩) 0 0 [] ∧ X5.heap.size = V3.heap.size + 1) := by
   rw [← hX5]
   exact ⟨zaa (Below.refl _ _) _, zd1 V3 _ (Nat.le_refl _), by simp⟩
  have x1 : X5.cell? ⟨w.heap.size, 1, none⟩ = some (.slice ua U uc) := by have := (HV3.out.2.later HX5.out.1).cell 1 rfl; rw [HU.out] at this; exact this
  have HBY : Hid (zak X5 ua (r.s.u.take N) ∧ (ua = none → uc = 0) ∧ (r.s.u.take N).length = N) := by
   have o3 : RvOwn V3 (w.heap.size + 3) r ⟨ua, uc, la, lc, es, fa, fc⟩ := by rw [← HV3.out.1]; exact H2.out.2.2.2.1.aside _ _ _ (by omega)
   have hs := ((o3.later HX5.out.1).fam.mine _ (List.mem_cons_self ..)).ok.1
   exact ⟨hs.1.take N, hs.2.1, by rw [List.length_take, HU.out]; omega⟩
  have e1 := sl_h ua U uc N (N : Int) rfl (by omega)
  have e2 := sl_l ua U uc N (N : Int) rfl hNle
  obtain ⟨ca, hca⟩ : ∃ ca, cutB ua uc N = ca := ⟨_, rfl⟩
  obtain ⟨cl, hcl⟩ : ∃ cl, U - N = cl := ⟨_, rfl⟩
  obtain ⟨cc, hcc⟩ : ∃ cc, uc - N = cc := ⟨_, rfl⟩
  rw [hca, hcl, hcc] at e2
  have HCC : Hid (cutB ua uc N = ca ∧ U - N = cl ∧ uc - N = cc) := ⟨hca, hcl, hcc⟩
  clear hca hcl hcc
  go_upto_region 7 with (at_builtin; refine list_app0 rfl (.tmp 26) (.tmp 30) rfl V3.heap.size (some ⟨V3.heap.size, 0, none⟩) 0 ua N uc (r.s.u.take N) rfl rfl HX5.out.2.1 HBY.out.1 HBY.out.2.2 HBY.out.2.1 (by omega) (by have := HX5.out.2.2; omega) ?_; intro da dc w5 hR5 hB5; have b5 := (HV3.out.2.later HX5.out.1).below hB5 HV3.out.2.lt; have y1 : w5.cell? ⟨w.heap.size, 1, none⟩ = some (.slice ua U uc) := (by have := b5.cell 1 rfl; rw [HU.out] at this; exact this); have f1 := b5.frozen 1)
  clear y1 f1 b5 e1 e2 x1 hX5
  obtain ⟨V6, hV6⟩ : ∃ V6, w5.setCell ⟨w.heap.size, 1, none⟩ (.slice ca cl cc) = V6 := ⟨_, rfl⟩
  have HR : Hid (RdTo w V6 r N (Pl.cutR r n) ⟨cutB ua uc N, uc - N, la, lc, es, fa, fc⟩ ⟨ua, uc, la, lc, es, fa, fc⟩ da dc) := by
   refine rd_cut (U := U) HH.out.1 HN.out HU.out H2.out.1 H2.out.2.1 H2.out.2.2.1 H2.out.2.2.2.1 H2.out.2.2.2.2.1 H2.out.2.2.2.2.2.1 HV3.out.1 (HX5.out.1.trans hB5) hR5 ?_
   rw [HCC.out.1, HCC.out.2.1, HCC.out.2.2]
   exact hV6
  rw [hV6]
  clear hV6 hR5 hB5 HX5 HBY HCC HV3 H2
  obtain ⟨k, HR⟩ : ∃ k, Hid (RdTo w V6 r N (Pl.cutR r n) k ⟨ua, uc, la, lc, es, fa, fc⟩ da dc) := ⟨_, HR⟩
  have hr2ok := (Pl.cut_ok (n := n) HH.out.2).1
  obtain ⟨r2, hr2⟩ : ∃ r2, Pl.cutR r n = r2 := ⟨_, rfl⟩
  rw [hr2] at HR hr2ok
  have HR2 : Hid (Pl.cutR r n = r2 ∧ r2.Ok) := ⟨hr2, hr2ok⟩
  have HAT : Hid (∀ X, RvOwn X (w.heap.size + 3) r ⟨ua, uc, la, lc, es, fa, fc⟩ → RvAt X r2 k) := fun X hX => by rw [← HR2.out.1]; exact own_cut hX HH.out.1 HN.out HR.out.ek
  have cW := fun W => zcg r2 k W (ok_lowB hr2ok)
  have hwb := Pl.window_bd hr2ok.uc
  have hnb := hr2ok.nf
  have hn0 := hr2ok.n0
  have hc1 := hr2ok.c1
  have hcm := hr2ok.cm
  have he0 := hr2ok.e0
  have her := hr2ok.er
  have hun := hr2ok.un
  unfold Pl.farI at hnb
  unfold Pl.Rv.reach Pl.Rx.bot at her
  obtain ⟨wd, hwd⟩ : ∃ wd, r2.window = wd := ⟨_, rfl⟩
  simp only [hwd] at cW hwb
  obtain ⟨c2, hc2⟩ : ∃ c2, r2.cap / 2 = c2 := ⟨_, rfl⟩
  obtain ⟨mx2, hmx⟩ : ∃ mx2, (if c2 < 1 then 1 else c2) = mx2 := ⟨_, rfl⟩
  have hrd : Pl.rdB r n = decide (mx2 ≤ r2.s.n + wd - r2.edge) := by
   rw [← hwd, ← hmx, ← hc2, ← HR2.out.1]; rfl
  obtain ⟨dq, hdq⟩ : ∃ dq, decide (mx2 ≤ r2.s.n + wd - r2.edge) = dq := ⟨_, rfl⟩
  rw [hdq] at hrd
  have HRD : Hid (Pl.rdB r n = dq) := hrd
  have hwr1 : IntKind.i64.wrap (r2.s.n + wd) = r2.s.n + wd := by rw [IntKind.wrap_i64]; omega
  have hwr2 : IntKind.i64.wrap (r2.s.n + wd - r2.edge) = r2.s.n + wd - r2.edge := by rw [IntKind.wrap_i64]; omega
  have hq : Int.tdiv r2.cap 2 = c2 := by rw [← hc2]; exact Int.tdiv_eq_ediv_of_nonneg (by omega)
  have hwr3 : IntKind.i64.wrap c2 = c2 := by rw [IntKind.wrap_i64]; omega
  clear hc2 hr2ok hwd hrd her hun hr2
  as_aux_lemma =>
   obtain ⟨S, hS⟩ : ∃ S : World → Prop, S = fun W => W.cell? ⟨w.heap.size, 0, none⟩ = some (.int .i64 r2.s.n) ∧ W.cell? ⟨w.heap.size, 1, none⟩ = some (.slice k.ua r2.s.u.length k.uc) ∧ W.cell? ⟨w.heap.size, 2, none⟩ = some (.slice k.la k.es.length k.lc) ∧ W.cell? ⟨w.heap.size, 3, none⟩ = some (.int .i64 r2.cap) ∧ W.cell? ⟨w.heap.size, 4, none⟩ = some (.int .i64 r2.shift) ∧ W.cell? ⟨w.heap.size, 5, none⟩ = some (.int .i64 r2.edge) ∧ W.cell? ⟨w.heap.size, 6, none⟩ = some (.int .u32 r2.recent) ∧ W.cell? ⟨w.heap.size, 7, none⟩ = some (.bool r2.stamps) ∧ W.cell? ⟨w.heap.size, 8, none⟩ = some (.bool r2.sacks) ∧ W.cell? ⟨w.heap.size, 9, none⟩ = some (.int .i64 r2.fin) ∧ W.cell? ⟨w.heap.size, 10, none⟩ = some (.bool r2.dn) ∧ W.cell? ⟨w.heap.size, 11, none⟩ = some (.slice k.fa r2.first.length k.fc) ∧ W.cell? ⟨w.heap.size, 12, none⟩ = some (.int .u32 r2.irs) ∧ W.cell? ⟨w.heap.size, 13, none⟩ = some (.int .u32 r2.own) ∧ W.cell? ⟨w.heap.size, 14, none⟩ = some (.bool r2.stamp) := ⟨_, rfl⟩
   have HSK : Hid (∀ W, Below V6.heap.size V6 W → S W) := fun W hW => by
    rw [hS]
    exact Box.c15 (HR.out.box.later hW)
   obtain ⟨y0, y1, y2, y4, y5, y6, y7, y8, y9, y10, y11, y12⟩ : (∀ {ps} (ev : EV), ev (.tmp 2) = .pointer (some ⟨w.heap.size, 0, none⟩) → Yl Try.prog S ev { dst := some 37, op := .fieldAddr 27 (.tmp 2) 0, type := 0, pos := ps, after := #[], guard := none } ((.pointer (some ⟨w.heap.size, 0, none⟩)))) ∧ (∀ {ps} (ev : EV), ev (.tmp 37) = .pointer (some ⟨w.heap.size, 0, none⟩) → Yl Try.prog S ev { dst := some 38, op := .load 3 (.tmp 37), type := 3, pos := ps, after := #[{ on := 0, ground := .data }], guard := none } ((.int .i64 r2.s.n))) ∧ (∀ {ps} (ev : EV), ev (.tmp 2) = .pointer (some ⟨w.heap.size, 0, none⟩) → Yl Try.prog S ev { dst := some 39, op := .load 27 (.tmp 2), type := 27, pos := ps, after := #[], guard := none } ((.agg #[.int .i64 r2.s.n, .slice k.ua r2.s.u.length k.uc, .slice k.la k.es.length k.lc, .int .i64 r2.cap, .int .i64 r2.shift, .int .i64 r2.edge, .int .u32 r2.recent, .bool r2.stamps, .bool r2.sacks, .int .i64 r2.fin, .bool r2.dn, .slice k.fa r2.first.length k.fc, .int .u32 r2.irs, .int .u32 r2.own, .bool r2.stamp]))) ∧ (∀ {ps} (ev : EV), ev (.tmp 38) = .int .i64 r2.s.n → ev (.tmp 40) = .int .i64 wd → Yl Try.prog S ev { dst := some 41, op := .binOp .add 3 (.tmp 38) (.tmp 40) 3, type := 3, pos := ps, after := #[{ on := 1, ground := .data }, { on := 3, ground := .data }], guard := none } ((.int .i64 (r2.s.n + wd)))) ∧ (∀ {ps} (ev : EV), ev (.tmp 2) = .pointer (some ⟨w.heap.size, 0, none⟩) → Yl Try.prog S ev { dst := some 42, op := .fieldAddr 27 (.tmp 2) 5, type := 0, pos := ps, after := #[], guard := none } ((.pointer (some ⟨w.heap.size, 5, none⟩)))) ∧ (∀ {ps} (ev : EV), ev (.tmp 42) = .pointer (some ⟨w.heap.size, 5, none⟩) → Yl Try.prog S ev { dst := some 43, op := .load 3 (.tmp 42), type := 3, pos := ps, after := #[{ on := 5, ground := .data }], guard := none } ((.int .i64 r2.edge))) ∧ (∀ {ps} (ev : EV), ev (.tmp 41) = .int .i64 (r2.s.n + wd) → ev (.tmp 43) = .int .i64 r2.edge → Yl Try.prog S ev { dst := some 44, op := .binOp .sub 3 (.tmp 41) (.tmp 43) 3, type := 3, pos := ps, after := #[{ on := 4, ground := .data }, { on := 6, ground := .data }], guard := none } ((.int .i64 (r2.s.n + wd - r2.edge)))) ∧ (∀ {ps} (ev : EV), ev (.tmp 2) = .pointer (some ⟨w.heap.size, 0, none⟩) → Yl Try.prog S ev { dst := some 45, op := .fieldAddr 27 (.tmp 2) 3, type := 0, pos := ps, after := #[], guard := none } ((.pointer (some ⟨w.heap.size, 3, none⟩)))) ∧ (∀ {ps} (ev : EV), ev (.tmp 45) = .pointer (some ⟨w.heap.size, 3, none⟩) → Yl Try.prog S ev { dst := some 46, op := .load 3 (.tmp 45), type := 3, pos := ps, after := #[{ on := 8, ground := .data }], guard := none } ((.int .i64 r2.cap))) ∧ (∀ {ps} (ev : EV), ev (.tmp 46) = .int .i64 r2.cap → ev (.const (.int .i64 2)) = .int .i64 2 → Yl Try.prog S ev { dst := some 47, op := .binOp .quo 3 (.tmp 46) (.const (.int .i64 2)) 3, type := 3, pos := ps, after := #[{ on := 9, ground := .data }], guard := none } ((.int .i64 c2))) ∧ (∀ {ps} (ev : EV), ev (.tmp 47) = .int .i64 c2 → ev (.const (.int .i64 1)) = .int .i64 1 → Yl Try.prog S ev { dst := some 48, op := .call { callee := .builtin .max, args := #[.tmp 47, .const (.int .i64 1)], argTypes := #[3, 3] }, type := 3, pos := ps, after := #[{ on := 10, ground := .data }], guard := none } ((.int .i64 mx2))) ∧ (∀ {ps} (ev : EV), ev (.tmp 44) = .int .i64 (r2.s.n + wd - r2.edge) → ev (.tmp 48) = .int .i64 mx2 → Yl Try.prog S ev { dst := some 49, op := .binOp .geq 3 (.tmp 44) (.tmp 48) 3, type := 4, pos := ps, after := #[{ on := 7, ground := .data }, { on := 11, ground := .data }], guard := none } ((.bool dq))) := by
    refine ⟨?_, ?_, ?_, ?_, ?_, ?_, ?_, ?_, ?_, ?_, ?_, ?_⟩ <;> (intros; intro W hSw; rw [hS] at hSw; (try dsimp only at hSw); go_simp <;> with_reducible rfl)
   refine zbd (fun W => S W ∧ Below V6.heap.size V6 W) (by kernel_rfl) (by kernel_rfl) ?hC ?_
   case hC => exact ⟨HSK.out _ (by repeat (first | with_reducible exact Below.refl _ _ | with_reducible assumption | with_reducible refine Below.drew ?_ | with_reducible refine zad ?_ _ | with_reducible refine zaa ?_ _)), by repeat (first | with_reducible exact Below.refl _ _ | with_reducible assumption | with_reducible refine Below.drew ?_ | with_reducible refine zad ?_ _ | with_reducible refine zaa ?_ _)⟩
   refine zaf (by rfl) (zai (fun W hW => y0 _ rfl W hW.1) ?_)
   try simp only [Act.put, qA, qZ, qS]
   refine zaf (by rfl) (zai (fun W hW => y1 _ rfl W hW.1) ?_)
   try simp only [Act.put, qA, qZ, qS]
   refine zaf (by rfl) (zai (fun W hW => y2 _ rfl W hW.1) ?_)
   try simp only [Act.put, qA, qZ, qS]
   refine zaf (by rfl) (zbv (v := .int .i64 wd) (f := 48) (args := #[.agg #[.int .i64 r2.s.n, .slice k.ua r2.s.u.length k.uc, .slice k.la k.es.length k.lc, .int .i64 r2.cap, .int .i64 r2.shift, .int .i64 r2.edge, .int .u32 r2.recent, .bool r2.stamps, .bool r2.sacks, .int .i64 r2.fin, .bool r2.dn, .slice k.fa r2.first.length k.fc, .int .u32 r2.irs, .int .u32 r2.own, .bool r2.stamp]]) ?hy3 ?hc3 ?rest3)
   case hy3 => (intro w hSw; (try dsimp only at hSw); first | (go_simp; done) | (go_simp; with_reducible rfl))
   case hc3 => (intro w hSw; refine (cW w).mono ?_; rintro e w1 ⟨rfl, hB⟩; exact ⟨rfl, HSK.out _ (Below.on hSw.2 hB), Below.on hSw.2 hB⟩)
   try simp only [Act.put, qA, qZ, qS]
   refine zaf (by rfl) (zai (fun W hW => y4 _ rfl rfl W hW.1) ?_)
   try simp only [Act.put, qA, qZ, qS]
   refine zaf (by rfl) (zai (fun W hW => y5 _ rfl W hW.1) ?_)
   try simp only [Act.put, qA, qZ, qS]
   refine zaf (by rfl) (zai (fun W hW => y6 _ rfl W hW.1) ?_)
   try simp only [Act.put, qA, qZ, qS]
   refine zaf (by rfl) (zai (fun W hW => y7 _ rfl rfl W hW.1) ?_)
   try simp only [Act.put, qA, qZ, qS]
   refine zaf (by rfl) (zai (fun W hW => y8 _ rfl W hW.1) ?_)
   try simp only [Act.put, qA, qZ, qS]
   refine zaf (by rfl) (zai (fun W hW => y9 _ rfl W hW.1) ?_)
   try simp only [Act.put, qA, qZ, qS]
   refine zaf (by rfl) (zai (fun W hW => y10 _ rfl rfl W hW.1) ?_)
   try simp only [Act.put, qA, qZ, qS]
   refine zaf (by rfl) (zai (fun W hW => y11 _ rfl rfl W hW.1) ?_)
   try simp only [Act.put, qA, qZ, qS]
   refine zaf (by rfl) (zai (fun W hW => y12 _ rfl rfl W hW.1) ?_)
   try simp only [Act.put, qA, qZ, qS]
   refine wpQuiet_nil ?_
   intro W8 hC8
   have H8 : Hid (RdTo w W8 r N r2 k ⟨ua, uc, la, lc, es, fa, fc⟩ da dc) := HR.out.later hC8.2
   clear hC8 y0 y1 y2 y4 y5 y6 y7 y8 y9 y10 y11 y12 hS HSK hwr1 hwr2 hwr3 hq hmx hdq hwb hnb hn0 hc1 hcm he0 cW HR
   cases dq with
   | true =>
    have hrd : Pl.rdB r n = true := HRD.out
    obtain ⟨R, hR⟩ : ∃ R, Pl.tellR r2 = R := ⟨_, rfl⟩
    obtain ⟨T, hT⟩ : ∃ T, tellS r2 r2.first = T := ⟨_, rfl⟩
    have HE : Hid (Pl.rdB r n = true ∧ Pl.readR r n = R ∧ readS r n = T) := ⟨hrd, by unfold Pl.readR; rw [hrd]; simp [HR2.out.1, hR], by unfold readS; rw [hrd, if_pos rfl, HR2.out.1, ← hT]; congr 1; rw [← HR2.out.1]; rfl⟩
    have hA8 := HAT.out W8 H8.out.own
    have cT := ze9 r2 k W8 hA8 HR2.out.2
    have HAR : Hid (∀ X q, RvOwn X W8.heap.size R q → RvAt X R q) := fun X q hq => hq.at (hR ▸ hA8.tell HR2.out.2)
    rw [hR, hT] at cT
    clear hrd HRD hR hT hA8
    as_aux_lemma =>
     obtain ⟨c0, c1, c2, c3, c4, c5, c6, c7, c8, c9, c10, c11, c12, c13, c14⟩ := Box.c15 H8.out.box
     go_wp2_with fail
     refine cT.mono ?_
     rintro e w9 ⟨k3, ks, rfl, hO9, hG9, hB9⟩
     clear c0 c1 c2 c3 c4 c5 c6 c7 c8 c9 c10 c11 c12 c13 c14 cT
     go_upto_region 9 with fail
     obtain ⟨Yb, hYb⟩ : ∃ Yb, (w9.alloc (.cells #[.int .i64 R.s.n, .slice k3.ua R.s.u.length k3.uc, .slice k3.la k3.es.length k3.lc, .int .i64 R.cap, .int .i64 R.shift, .int .i64 R.edge, .int .u32 R.recent, .bool R.stamps, .bool R.sacks, .int .i64 R.fin, .bool R.dn, .slice k3.fa R.first.length k3.fc, .int .u32 R.irs, .int .u32 R.own, .bool R.stamp] 27)).alloc (.cells #[.int .i64 T.sp, .int .i64 T.dp, .int .u32 T.sq, .int .u32 T.ak, .int .i64 T.fl, .int .i64 T.wn, .int .i64 T.ur, .int .i64 T.ms, .int .i64 T.sc, .bool T.so, .bool T.st, .int .u32 T.va, .int .u32 T.ec, .slice ks.ka T.sk.length ks.kc, .slice ks.da T.da.length ks.dc] 34) = Yb := ⟨_, rfl⟩
     have bYb : Below w9.heap.size w9 Yb := by rw [← hYb]; exact zaa (zaa (Below.refl _ _) _) _
     have x1 : Box Yb w9.heap.size 27 (rvL R k3) := by rw [← hYb]; exact (Box.new w9 27 (rvL R k3)).alloc _
     have x2 : Box Yb (w9.heap.size + 1) 34 [.int .i64 T.sp, .int .i64 T.dp, .int .u32 T.sq, .int .u32 T.ak, .int .i64 T.fl, .int .i64 T.wn, .int .i64 T.ur, .int .i64 T.ms, .int .i64 T.sc, .bool T.so, .bool T.st, .int .u32 T.va, .int .u32 T.ec, .slice ks.ka T.sk.length ks.kc, .slice ks.da T.da.length ks.dc] := by rw [← hYb]; have := Box.new (w9.alloc (.cells #[.int .i64 R.s.n, .slice k3.ua R.s.u.length k3.uc, .slice k3.la k3.es.length k3.lc, .int .i64 R.cap, .int .i64 R.shift, .int .i64 R.edge, .int .u32 R.recent, .bool R.stamps, .bool R.sacks, .int .i64 R.fin, .bool R.dn, .slice k3.fa R.first.length k3.fc, .int .u32 R.irs, .int .u32 R.own, .bool R.stamp] 27)) 34 (sgL T ks); rwa [World.size_alloc] at this
     have h9 := H8.out.later (Below.on hB9 bYb)
     have s8 := hB9.size
     have s7 := H8.out.sz
     have HYb : Hid (Box Yb w9.heap.size 27 (rvL R k3) ∧ Box Yb (w9.heap.size + 1) 34 [.int .i64 T.sp, .int .i64 T.dp, .int .u32 T.sq, .int .u32 T.ak, .int .i64 T.fl, .int .i64 T.wn, .int .i64 T.ur, .int .i64 T.ms, .int .i64 T.sc, .bool T.so, .bool T.st, .int .u32 T.va, .int .u32 T.ec, .slice ks.ka T.sk.length ks.kc, .slice ks.da T.da.length ks.dc] ∧ Box Yb (w.heap.size + 1) 27 zR ∧ Box Yb (w.heap.size + 1 + 1) 34 zS ∧ RvOwn Yb W8.heap.size R k3 ∧ SgOwn Yb W8.heap.size T ks ∧ Row Yb w.heap.size da N dc (r.s.u.take N) ∧ Below w.heap.size w Yb ∧ w.heap.size + 3 ≤ w9.heap.size ∧ w.heap.size + 3 ≤ W8.heap.size) :=
      ⟨x1, x2, h9.zr, h9.zs, hO9.later bYb, hG9.later bYb, h9.row, h9.bel, by omega, s7⟩
     rw [hYb]
     clear hYb bYb x1 x2 h9 s8 s7 hO9 hG9 hB9 H8
     obtain ⟨S, hS⟩ : ∃ S : World → Prop, S = fun W => Box W w9.heap.size 27 (rvL R k3) ∧ Box W (w9.heap.size + 1) 34 [.int .i64 T.sp, .int .i64 T.dp, .int .u32 T.sq, .int .u32 T.ak, .int .i64 T.fl, .int .i64 T.wn, .int .i64 T.ur, .int .i64 T.ms, .int .i64 T.sc, .bool T.so, .bool T.st, .int .u32 T.va, .int .u32 T.ec, .slice ks.ka T.sk.length ks.kc, .slice ks.da T.da.length ks.dc] := ⟨_, rfl⟩
     have y0 : ∀ {ps : String} (ev : Operand → Value), ev (.tmp 11) = .pointer (some ⟨w9.heap.size, 0, none⟩) → ∀ W, S W → (execOp ev { dst := some 55, op := .load 27 (.tmp 11), type := 27, pos := ps, after := #[], guard := none }).run Try.prog W = .ok (.value (.agg #[.int .i64 R.s.n, .slice k3.ua R.s.u.length k3.uc, .slice k3.la k3.es.length k3.lc, .int .i64 R.cap, .int .i64 R.shift, .int .i64 R.edge, .int .u32 R.recent, .bool R.stamps, .bool R.sacks, .int .i64 R.fin, .bool R.dn, .slice k3.fa R.first.length k3.fc, .int .u32 R.irs, .int .u32 R.own, .bool R.stamp])) W := by
      intro ps ev h0 W hSw
      rw [hS] at hSw
      obtain ⟨c0, c1, c2, c3, c4, c5, c6, c7, c8, c9, c10, c11, c12, c13, c14⟩ := Box.c15 hSw.1
      first | (go_simp; done) | (go_simp; with_reducible rfl)
     have y1 : ∀ {ps : String} (ev : Operand → Value), ev (.tmp 10) = .slice da N dc → ∀ W, S W → (execOp ev { dst := some 56, op := .move (.tmp 10), type := 22, pos := ps, after := #[{ on := 3, ground := .gcOnly .lateStores }], guard := none }).run Try.prog W = .ok (.value (.slice da N dc)) W := by
      intro ps ev h0 W hSw
      rw [hS] at hSw
      try dsimp only at hSw
      first | (go_simp; done) | (go_simp; with_reducible rfl)
     have y2 : ∀ {ps : String} (ev : Operand → Value), ev (.tmp 12) = .pointer (some ⟨w9.heap.size + 1, 0, none⟩) → ∀ W, S W → (execOp ev { dst := some 57, op := .load 34 (.tmp 12), type := 34, pos := ps, after := #[{ on := 4, ground := .gcOnly .lateStores }], guard := none }).run Try.prog W = .ok (.value (.agg #[.int .i64 T.sp, .int .i64 T.dp, .int .u32 T.sq, .int .u32 T.ak, .int .i64 T.fl, .int .i64 T.wn, .int .i64 T.ur, .int .i64 T.ms, .int .i64 T.sc, .bool T.so, .bool T.st, .int .u32 T.va, .int .u32 T.ec, .slice ks.ka T.sk.length ks.kc, .slice ks.da T.da.length ks.dc])) W := by
      intro ps ev h0 W hSw
      rw [hS] at hSw
      obtain ⟨c0, c1, c2, c3, c4, c5, c6, c7, c8, c9, c10, c11, c12, c13, c14⟩ := Box.c15 hSw.2
      first | (go_simp; done) | (go_simp; with_reducible rfl)
     obtain ⟨y4, y6⟩ : (∀ {ps} (ev : EV), ev (.tmp 56) = .slice da N dc → Yl Try.prog S ev { dst := some 5, op := .assign (.tmp 56), type := 22, pos := ps, after := #[{ on := 1, ground := .data }, { on := 3, ground := .chain }, { on := 0, ground := .phase }, { on := 1, ground := .phase }, { on := 2, ground := .textOnly .lateStores }, { on := 3, ground := .phase }], guard := none } ((.slice da N dc))) ∧ (∀ {ps} (ev : EV), ev (.const (.bool true)) = .bool true → Yl Try.prog S ev { dst := some 7, op := .assign (.const (.bool true)), type := 4, pos := ps, after := #[{ on := 5, ground := .chain }, { on := 0, ground := .phase }, { on := 1, ground := .phase }, { on := 2, ground := .phase }, { on := 3, ground := .phase }, { on := 4, ground := .phase }, { on := 5, ground := .phase }], guard := none } ((.bool true))) := by
      refine ⟨?_, ?_⟩ <;> (intros; intro W hSw; rw [hS] at hSw; (try dsimp only at hSw); go_simp <;> with_reducible rfl)
     have hdr : Below Yb.heap.size Yb Yb.drew := Below.drew (Below.refl _ _)
     have hSd : S Yb.drew := by rw [hS]; exact ⟨HYb.out.1.later hdr, HYb.out.2.1.later hdr⟩
     have z1 := HYb.out.2.2.1.later hdr
     have z2 := HYb.out.2.2.2.1.later hdr
     have sz := HYb.out.2.2.2.2.2.2.2.2.1
     have sw := HYb.out.2.2.2.2.2.2.2.2.2
     obtain ⟨X3, hX3⟩ : ∃ X3, setAll Yb.drew (w.heap.size + 1) 0 (rvL R k3) = X3 := ⟨_, rfl⟩
     have hS3 : S X3 := by rw [hS, ← hX3]; exact ⟨(HYb.out.1.later hdr).putAside _ _ _ (by omega), (HYb.out.2.1.later hdr).putAside _ _ _ (by omega)⟩
     have z3 : Box X3 (w.heap.size + 1) 27 (rvL R k3) := by rw [← hX3]; exact z1.put _ rfl
     have z4 : Box X3 (w.heap.size + 1 + 1) 34 zS := by rw [← hX3]; exact z2.putAside _ _ _ (by omega)
     obtain ⟨X5, hX5⟩ : ∃ X5, setAll X3 (w.heap.size + 1 + 1) 0 (sgL T ks) = X5 := ⟨_, rfl⟩
     have hS5 : S X5 := by
      rw [hS] at hS3 ⊢
      rw [← hX5]; exact ⟨hS3.1.putAside _ _ _ (by omega), hS3.2.putAside _ _ _ (by omega)⟩
     have HF : Hid (Box X5 (w.heap.size + 1) 27 (rvL R k3) ∧ Box X5 (w.heap.size + 1 + 1) 34 (sgL T ks) ∧ RvAt X5 R k3 ∧ SgOwn X5 w.heap.size T ks ∧ Row X5 w.heap.size da N dc (r.s.u.take N) ∧ Below w.heap.size w X5) := by
      rw [← hX5]
      refine ⟨z3.putAside _ _ _ (by omega), z4.put _ rfl, HAR.out _ _ (RvOwn.besideS ?_ z4 0 _), SgOwn.besideS ?_ z4 0 _, zat ?_ z4 (by decide) _ _, zah (by omega) ?_⟩
      · rw [← hX3]; exact (HYb.out.2.2.2.2.1.later hdr).besideR z1 0 _
      · have hg := (HYb.out.2.2.2.2.2.1.later hdr).mono (B' := w.heap.size) (by omega)
        rw [← hX3]; exact { hg with row := zat hg.row z1 (by decide) _ _ }
      · rw [← hX3]; exact zat (HYb.out.2.2.2.2.2.2.1.later hdr) z1 (by decide) _ _
      · rw [← hX3]; exact zah (by omega) (Below.on HYb.out.2.2.2.2.2.2.2.1 hdr)
     have HXY : Hid (setAll Yb.drew (w.heap.size + 1) 0 (rvL R k3) = X3 ∧ setAll X3 (w.heap.size + 1 + 1) 0 (sgL T ks) = X5) := ⟨hX3, hX5⟩
     clear hX3 hX5 z3 z2 sz sw HYb hdr
     refine zar S 7 (by kernel_rfl) hSd (fun hHeld => ?_)
     refine zk 0 (y0 _ rfl) ?_
     try simp only [Act.put, qA, qZ, qS]
     refine zk 1 (y1 _ rfl) ?_
     try simp only [Act.put, qA, qZ, qS]
     refine zk 2 (y2 _ rfl) ?_
     try simp only [Act.put, qA, qZ, qS]
     refine zal (i := 3) (o := { dst := none, op := .store 27 (.tmp 4) (.tmp 55), type := 0, pos := _, after := #[{ on := 0, ground := .data }, { on := 0, ground := .phase }, { on := 1, ground := .textOnly .lateStores }, { on := 2, ground := .textOnly .lateStores }], guard := none }) (by kernel_rfl) rfl (fun K hK => ?_)
     refine zbx rfl (.tmp 4) (.tmp 55) rfl R k3 (w.heap.size + 1) (cs := zR) rfl rfl rfl z1 HXY.out.1 (fun v => ?_)
     refine hK.out _ _ ⟨fun _ => hS3, ?_⟩
     clear hK K hHeld hSd
     try simp only [Act.put, qA, qZ, qS]
     refine zk 4 (y4 _ rfl) ?_
     try simp only [Act.put, qA, qZ, qS]
     refine zal (i := 5) (o := { dst := none, op := .store 34 (.tmp 6) (.tmp 57), type := 0, pos := _, after := #[{ on := 2, ground := .data }, { on := 4, ground := .chain }, { on := 0, ground := .phase }, { on := 1, ground := .phase }, { on := 2, ground := .phase }, { on := 3, ground := .phase }, { on := 4, ground := .phase }], guard := none }) (by kernel_rfl) rfl (fun K hK => ?_)
     refine zct rfl (.tmp 6) (.tmp 57) rfl T ks (w.heap.size + 1 + 1) (cs := zS) rfl rfl rfl z4 HXY.out.2 (fun v => ?_)
     refine hK.out _ _ ⟨fun _ => hS5, ?_⟩
     clear hK K
     try simp only [Act.put, qA, qZ, qS]
     refine zk 6 (y6 _ rfl) ?_
     try simp only [Act.put, qA, qZ, qS]
     refine zal (i := 7) (o := { dst := some 8, op := .assign (.const (.int .i64 0)), type := 3, pos := _, after := #[{ on := 6, ground := .chain }, { on := 0, ground := .phase }, { on := 1, ground := .phase }, { on := 2, ground := .phase }, { on := 3, ground := .phase }, { on := 4, ground := .phase }, { on := 5, ground := .phase }, { on := 6, ground := .phase }], guard := none }) (by kernel_rfl) rfl (fun K hK => ?_)
     rw [if_pos (by rfl)]
     go_simp
     refine hK.out _ _ ⟨fun h => absurd rfl h, ?_⟩
     clear hK K
     refine za2 (by kernel_rfl) ?_ _
     try simp only [Act.put, qA, qZ, qS]
     clear z1 z4 hS3 hS5 y0 y1 y2 y4 y6 hS HXY
     go_wp2_with fail
     refine bodyPost_ret (zch rfl _ _ (w.heap.size + 1) (w.heap.size + 1 + 1) _ _ rfl rfl rfl rfl HF.out.1 HF.out.2.1) rfl ?_
     rw [HE.out.1, HE.out.2.1, HE.out.2.2, HN.out]
     exact ⟨k3, da, dc, ks, rfl, HF.out.2.2.1, HF.out.2.2.2.2.1.sl (fun x hx => (HH.out.1.un.1.2.1 x (List.mem_of_mem_take hx))) (by rw [List.length_take, HU.out]; omega), HF.out.2.2.2.1, HF.out.2.2.2.2.2⟩
   | false =>
    have hrd : Pl.rdB r n = false := HRD.out
    have HE : Hid (Pl.rdB r n = false ∧ Pl.readR r n = r2 ∧ readS r n = zeroS) := ⟨hrd, by unfold Pl.readR; rw [hrd]; simp [HR2.out.1], by unfold readS; rw [hrd]; simp⟩
    clear hrd HRD
    as_aux_lemma =>
     have hx8 := H8.out.box
     have hz1 := H8.out.zr
     have hz2 : Box W8 (w.heap.size + 2) 34 zS := H8.out.zs
     have hs8 := H8.out.sz
     obtain ⟨Y, hY⟩ : ∃ Y, setAll (setAll W8 (w.heap.size + 1) 0 [.int .i64 r2.s.n, .slice k.ua r2.s.u.length k.uc, .slice k.la k.es.length k.lc, .int .i64 r2.cap, .int .i64 r2.shift, .int .i64 r2.edge, .int .u32 r2.recent, .bool r2.stamps, .bool r2.sacks, .int .i64 r2.fin, .bool r2.dn, .slice k.fa r2.first.length k.fc, .int .u32 r2.irs, .int .u32 r2.own, .bool r2.stamp]) (w.heap.size + 2) 0 zS = Y := ⟨_, rfl⟩
     have HF : Hid (Box Y (w.heap.size + 1) 27 (rvL r2 k) ∧ Box Y (w.heap.size + 2) 34 zS ∧ RvAt Y r2 k ∧ Row Y w.heap.size da N dc (r.s.u.take N) ∧ Below w.heap.size w Y) := by
      have q2 := hz2.putAside (w.heap.size + 1) 0 [.int .i64 r2.s.n, .slice k.ua r2.s.u.length k.uc, .slice k.la k.es.length k.lc, .int .i64 r2.cap, .int .i64 r2.shift, .int .i64 r2.edge, .int .u32 r2.recent, .bool r2.stamps, .bool r2.sacks, .int .i64 r2.fin, .bool r2.dn, .slice k.fa r2.first.length k.fc, .int .u32 r2.irs, .int .u32 r2.own, .bool r2.stamp] (by omega)
      rw [← hY]
      exact ⟨(hz1.put [.int .i64 r2.s.n, .slice k.ua r2.s.u.length k.uc, .slice k.la k.es.length k.lc, .int .i64 r2.cap, .int .i64 r2.shift, .int .i64 r2.edge, .int .u32 r2.recent, .bool r2.stamps, .bool r2.sacks, .int .i64 r2.fin, .bool r2.dn, .slice k.fa r2.first.length k.fc, .int .u32 r2.irs, .int .u32 r2.own, .bool r2.stamp] rfl).putAside _ _ _ (by omega), q2.put _ rfl, HAT.out _ ((H8.out.own.aside _ _ _ (by omega)).aside _ _ _ (by omega)), zat (zat H8.out.row hz1 (by decide) _ _) q2 (by decide) _ _, zah (by omega) (zah (by omega) H8.out.bel)⟩
     have HY : Hid (setAll (setAll W8 (w.heap.size + 1) 0 [.int .i64 r2.s.n, .slice k.ua r2.s.u.length k.uc, .slice k.la k.es.length k.lc, .int .i64 r2.cap, .int .i64 r2.shift, .int .i64 r2.edge, .int .u32 r2.recent, .bool r2.stamps, .bool r2.sacks, .int .i64 r2.fin, .bool r2.dn, .slice k.fa r2.first.length k.fc, .int .u32 r2.irs, .int .u32 r2.own, .bool r2.stamp]) (w.heap.size + 2) 0 zS = Y) := hY
     clear hY
     clear hs8 H8
     go_upto_region 10 with fail
     refine wp_retR rfl rfl rfl rfl rfl rfl rfl rfl rfl rfl rfl rfl rfl rfl rfl rfl rfl rfl rfl rfl rfl rfl rfl rfl r2 k (gs := w.heap.size) (gd := w.heap.size + 1) (gz := w.heap.size + 2) rfl rfl rfl rfl rfl rfl rfl rfl rfl rfl rfl rfl rfl rfl hx8 hz1 hz2 (by omega) ?_
     intro Y2 hY2
     have e : Y2 = Y := hY2.symm.trans HY.out
     subst e
     clear hY2 hx8 hz1 hz2 HY
     simp only [Act.put, qA, qZ, qS]
     go_wp2_with fail
     refine bodyPost_ret (zch rfl _ _ (w.heap.size + 1) (w.heap.size + 2) [.int .i64 r2.s.n, .slice k.ua r2.s.u.length k.uc, .slice k.la k.es.length k.lc, .int .i64 r2.cap, .int .i64 r2.shift, .int .i64 r2.edge, .int .u32 r2.recent, .bool r2.stamps, .bool r2.sacks, .int .i64 r2.fin, .bool r2.dn, .slice k.fa r2.first.length k.fc, .int .u32 r2.irs, .int .u32 r2.own, .bool r2.stamp] zS rfl rfl rfl rfl HF.out.1 HF.out.2.1) rfl ?_
     have h0 := HF.out
     rw [HE.out.1, HE.out.2.1, HE.out.2.2, HN.out]
     exact ⟨k, da, dc, ⟨none, 0, none, 0⟩, rfl, h0.2.2.1, h0.2.2.2.1.sl (fun x hx => (HH.out.1.un.1.2.1 x (List.mem_of_mem_take hx))) (by rw [List.length_take, HU.out]; omega), ⟨RowB.nil _ _, by simp [zeroS], rfl, rfl, rfl⟩, h0.2.2.2.2⟩
end Go.Proofs.Ytkigcdmlkmcdcaa

