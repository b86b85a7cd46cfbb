/- The walk of RecvOrders. -/
import Derived.Test.YtkigcdmlkmcdcaaMOrdP
import Derived.BigQuiet
namespace Go.Proofs.Ytkigcdmlkmcdcaa
open Go.ChangeShapes Go.WideShapes Go.ChangeAt Go.RowKit
set_option linter.unusedVariables false
set_option linter.unusedSimpArgs false

set_option maxRecDepth 100000 in
set_option maxHeartbeats 16000000 in
theorem orders_go (ta : Option Addr) (tn tc : Nat) (ts : List Int) (irs : Int) (pa : Option Addr) (pn pc : Nat) (ps : List Int) (qa : Option Addr) (qn qc : Nat) (qs : List Int) (w : World)
    (hT : SlAt w ta tc ts) (ht : ts.length = tn) (hi : U32 irs) (hP : IntsAt w pa ps) (hp : ps.length = pn) (hQ : IntsAt w qa qs) (hq : qs.length = qn) (hqb : qn ≤ 9223372036854775807) (h1 : tn ≤ 200) (h2 : pn ≤ 200) :
    Calls Try.prog 8 #[.slice ta tn tc, .int .u32 irs, .slice pa pn pc, .slice qa qn qc] w fun e w' => e = .returned (.bool true) ∧ Below w.heap.size w w' := by
  have kh := heads_any
  have h1' : ¬ (200 : Int) < (tn : Int) := by omega
  have h2' : ¬ (200 : Int) < (pn : Int) := by omega
  have k1 := recvNew_ok 1000 2 irs 0 true true w (by decide)
  have HP : Hid (SlAt w ta tc ts ∧ ts.length = tn ∧ U32 irs ∧ IntsAt w pa ps ∧ ps.length = pn ∧ IntsAt w qa qs ∧ qs.length = qn) := ⟨hT, ht, hi, hP, hp, hQ, hq⟩
  clear hT ht hi hP hp hQ hq
  go_enter Try.func8, Try.ntmps8
  go_wp2_with fail
  refine k1.mono ?_
  rintro e w1 ⟨rfl, hB1⟩
  obtain ⟨R0, hR0⟩ : ∃ R0, Pl.newR 1000 2 irs 0 true true = R0 := ⟨_, rfl⟩
  rw [hR0]
  have hgd : Pl.Good R0 ts [] irs := by rw [← hR0]; exact Pl.good_new (by omega) (by omega)
  have hat : ∀ W, RvAt W R0 noH := fun W => by rw [← hR0]; exact new_at W HP.out.2.2.1
  obtain ⟨X1, hX1⟩ : ∃ X1, w1.alloc (.cells #[.int .i64 R0.s.n, .slice noH.ua R0.s.u.length noH.uc, .slice noH.la noH.es.length noH.lc, .int .i64 R0.cap, .int .i64 R0.shift, .int .i64 R0.edge, .int .u32 R0.recent, .bool R0.stamps, .bool R0.sacks, .int .i64 R0.fin, .bool R0.dn, .slice noH.fa R0.first.length noH.fc, .int .u32 R0.irs, .int .u32 R0.own, .bool R0.stamp] 27) = X1 := ⟨_, rfl⟩
  have hbx : Box X1 w1.heap.size 27 [.int .i64 R0.s.n, .slice noH.ua R0.s.u.length noH.uc, .slice noH.la noH.es.length noH.lc, .int .i64 R0.cap, .int .i64 R0.shift, .int .i64 R0.edge, .int .u32 R0.recent, .bool R0.stamps, .bool R0.sacks, .int .i64 R0.fin, .bool R0.dn, .slice noH.fa R0.first.length noH.fc, .int .u32 R0.irs, .int .u32 R0.own, .bool R0.stamp] := by rw [← hX1]; exact Box.new w1 27 [.int .i64 R0.s.n, .slice noH.ua R0.s.u.length noH.uc, .slice noH.la noH.es.length noH.lc, .int .i64 R0.cap, .int .i64 R0.shift, .int .i64 R0.edge, .int .u32 R0.recent, .bool R0.stamps, .bool R0.sacks, .int .i64 R0.fin, .bool R0.dn, .slice noH.fa R0.first.length noH.fc, .int .u32 R0.irs, .int .u32 R0.own, .bool R0.stamp]
  have HST : Hid (OrdAt w X1 X1.heap.size w1.heap.size R0 noH ts [] irs none 0 0) := { good := hgd, len := rfl, lies := hat X1, box := hbx, row := World.ownsRow_nil _ _ _ _, bel := (by rw [← hX1]; exact below_more hB1 _), gB := hbx.lt, wg := hB1.size, Bs := Nat.le_refl _ }
  clear hgd hat hR0 k1 hbx hB1
  go_upto_region 6 with fail
  try rw [hX1]
  clear hX1
  go_wp2_with fail
  go_loopw [11, 12] (fun v11 v12 wr => ∃ (r : Pl.Rv) (h : Hd) (got : List Int) (ga : Option Addr) (gl gc i : Nat), v11 = .slice ga gl gc ∧ v12 = .int .i64 (i : Int) ∧ i ≤ pn ∧ Hid (OrdAt w wr X1.heap.size w1.heap.size r h ts got irs ga gl gc))
      (fun _ vi _ => pn - (intOf vi).toNat)
  case atStart => exact ⟨R0, noH, [], none, 0, 0, 0, rfl, rfl, Nat.zero_le _, HST⟩
  case round =>
    obtain ⟨r, h, got, ga, gl, gc, i, rfl, rfl, hin, HR⟩ := hrel
    clear HST
    by_cases hi' : i < pn
    · have hlt : (i : Int) < (pn : Int) := by omega
      obtain ⟨pb, pf, rfl, hcell, hpy⟩ := HP.out.2.2.2.1.later HR.out.bel i (by rw [HP.out.2.2.2.2.1]; exact hi')
      obtain ⟨py, hpyy⟩ : ∃ x, ps[i]?.getD 0 = x := ⟨_, rfl⟩
      rw [hpyy] at hcell hpy
      unfold I64 at hpy
      clear hpyy
      go_upto_region 12 with fail
      obtain ⟨x, hx, hxt⟩ := place_of py tn h1
      obtain ⟨n, hn, hnt⟩ := size_of py
      refine reg12 (r := r) (h := h) (irs := irs) (ta := ta) (tc := tc) (L := tn) (ts := ts) (x := x) (n := n) (g9 := w1.heap.size) rfl rfl rfl rfl (congrArg (Value.int .i64) hx) (congrArg (Value.int .i64) hn) HR.out.box HR.out.lies HR.out.good.ok (HP.out.1.later HR.out.bel) HP.out.2.1 (by rw [HP.out.2.1]; exact hxt) (by omega) (by rw [HP.out.2.1]; exact h1) HP.out.2.2.1 ?_
      intro v W2 s t A k g hpart _ hA hO hbx hgw hB2 e12 e16 e17
      clear hx hn hcell
      obtain ⟨_, hbt, hgA, _, _⟩ := Pl.good_into HR.out.good hpart
      rw [hA] at hgA
      rw [hbt] at e16
      have hmon := Pl.in_ok (g := segOf s) HR.out.good.ok
      rw [hA] at hmon
      have hown : U32 A.own := by rw [← hA, (in_low (r := r) (g := segOf s)).2.1]; exact HR.out.lies.own
      have hlow := good_low hgA HP.out.2.2.1 hown
      have HA2 : Hid (Pl.Good A ts got irs ∧ RvOwn W2 wr.heap.size A k ∧ Box W2 g 27 [.int .i64 A.s.n, .slice k.ua A.s.u.length k.uc, .slice k.la k.es.length k.lc, .int .i64 A.cap, .int .i64 A.shift, .int .i64 A.edge, .int .u32 A.recent, .bool A.stamps, .bool A.sacks, .int .i64 A.fin, .bool A.dn, .slice k.fa A.first.length k.fc, .int .u32 A.irs, .int .u32 A.own, .bool A.stamp] ∧ wr.heap.size ≤ g ∧ Below wr.heap.size wr W2 ∧ U32 A.recent ∧ U32 A.irs ∧ U32 A.own) := ⟨hgA, hO, hbx, hgw, hB2, hlow.1, hlow.2.1, hlow.2.2⟩
      have g5 : decide (A.s.n < r.s.n) = false := by simp; exact hmon.2.1
      have g6 : decide (A.edge < r.edge) = false := by simp; exact hmon.2.2.1
      simp only [Act.put, List.setIfInBounds_toArray, List.set_cons_zero, List.set_cons_succ]
      rw [e12, e16, e17]
      clear e12 e16 e17 hpart hA hgA hbt hmon hown hlow hO hbx hgw hB2 hxt hnt
      as_aux_lemma =>
        have hck := recvCheck_ok A k W2 (HA2.out.2.1.atOk HA2.out.1.ok HA2.out.2.2.2.2.2.1 HA2.out.2.2.2.2.2.2.1 HA2.out.2.2.2.2.2.2.2) HA2.out.1.ok
        obtain ⟨c0, c1, c2, c3, c4, c5, c6, c7, c8, c9, c10, c11, c12, c13, c14⟩ := Box.c15 HA2.out.2.2.1
        obtain ⟨d0, d1, d2, d3, d4, d5, d6, d7, d8, d9, d10, d11, d12, d13, d14⟩ := Box.c15 (HR.out.box.later HA2.out.2.2.2.2.1)
        go_wp2_with fail
        refine hck.mono ?_
        rintro e w3 ⟨rfl, hB3⟩
        clear c0 c1 c2 c3 c4 c5 c6 c7 c8 c9 c10 c11 c12 c13 c14 d0 d1 d2 d3 d4 d5 d6 d7 d8 d9 d10 d11 d12 d13 d14 hck
        have hb9 := (HR.out.box.later HA2.out.2.2.2.2.1).later hB3
        have HB3 : Hid (Below W2.heap.size W2 w3 ∧ Box w3 w1.heap.size 27 [.int .i64 r.s.n, .slice h.ua r.s.u.length h.uc, .slice h.la h.es.length h.lc, .int .i64 r.cap, .int .i64 r.shift, .int .i64 r.edge, .int .u32 r.recent, .bool r.stamps, .bool r.sacks, .int .i64 r.fin, .bool r.dn, .slice h.fa r.first.length h.fc, .int .u32 r.irs, .int .u32 r.own, .bool r.stamp]) := ⟨hB3, hb9⟩
        obtain ⟨c0, c1, c2, c3, c4, c5, c6, c7, c8, c9, c10, c11, c12, c13, c14⟩ := Box.c15 (HA2.out.2.2.1.later hB3)
        obtain ⟨d0, d1, d2, d3, d4, d5, d6, d7, d8, d9, d10, d11, d12, d13, d14⟩ := Box.c15 hb9
        clear hB3 hb9
        go_upto_region 15 with fail
        clear c0 c1 c2 c3 c4 c5 c6 c7 c8 c9 c10 c11 c12 c13 c14 d0 d1 d2 d3 d4 d5 d6 d7 d8 d9 d10 d11 d12 d13 d14 g5 g6
        refine wp_copyR rfl rfl rfl rfl rfl rfl A k (gs := g) (gd := w1.heap.size) rfl rfl rfl (HA2.out.2.2.1.later HB3.out.1) rfl HB3.out.2 ?_
        intro X3 hX3
        have hO3 : RvOwn X3 wr.heap.size A k := by rw [← hX3]; exact (HA2.out.2.1.later HB3.out.1).besideR HB3.out.2 0 _
        have HO : Hid (OrdAt w X3 X1.heap.size w1.heap.size A k ts got irs ga gl gc) :=
          { good := HA2.out.1, len := HR.out.len, lies := hO3.atOk HA2.out.1.ok HA2.out.2.2.2.2.2.1 HA2.out.2.2.2.2.2.2.1 HA2.out.2.2.2.2.2.2.2
            box := (by rw [← hX3]; exact HB3.out.2.put (rvL A k) rfl), row := (by rw [← hX3]; exact ownsRow_setAll ((HR.out.row.later HA2.out.2.2.2.2.1).later HB3.out.1) _ _ _ HR.out.gB)
            bel := (by rw [← hX3]; exact setAll_below HR.out.wg (Below.on (Below.on HR.out.bel HA2.out.2.2.2.2.1) HB3.out.1)), gB := HR.out.gB, wg := HR.out.wg
            Bs := (by rw [← hX3, setAll_size]; exact Nat.le_trans HR.out.Bs (Nat.le_trans HA2.out.2.2.2.2.1.size HB3.out.1.size)) }
        clear hX3 hO3 HB3 HA2 HR
        simp only [Act.put, List.setIfInBounds_toArray, List.set_cons_zero, List.set_cons_succ]
        as_aux_lemma =>
          by_cases hrd : i < qn
          · have hrd' : (i : Int) < (qn : Int) := by omega
            obtain ⟨qb, qf, rfl, hcq, hqy⟩ := HP.out.2.2.2.2.2.1.later HO.out.bel i (by rw [HP.out.2.2.2.2.2.2]; exact hrd)
            obtain ⟨qy, hqyy⟩ : ∃ x, qs[i]?.getD 0 = x := ⟨_, rfl⟩
            rw [hqyy] at hcq
            clear hqyy hqy
            obtain ⟨m, hm⟩ : ∃ m, bits BinOp.and IntKind.i64 qy 31 = m := ⟨_, rfl⟩
            go_upto_region 17 with fail
            refine reg17 (r := A) (h := k) (rb := qb) (rf := qf) (rl := qn) (rc := qc) (i0 := i) (y := qy) (m := m) (g9 := w1.heap.size) rfl rfl rfl rfl HO.out.box HO.out.lies HO.out.good.ok hrd' hcq hm ?_
            intro v5 W5 k2 da dc g2 hO5 hS5 hbx5 hgw5 hB5 e13 e16 e19
            simp only [Act.put, List.setIfInBounds_toArray, List.set_cons_zero, List.set_cons_succ]
            rw [e13, e16, e19]
            obtain ⟨news, hnews⟩ : ∃ x, A.s.u.take (Pl.rdN A m) = x := ⟨_, rfl⟩
            obtain ⟨nn, hnn⟩ : ∃ x, Pl.rdN A m = x := ⟨_, rfl⟩
            obtain ⟨R, hR⟩ : ∃ R, Pl.readR A m = R := ⟨_, rfl⟩
            rw [hR] at hO5 hbx5
            have hgr := Pl.good_read HO.out.good m
            rw [hR] at hgr
            rw [hnews] at hgr hS5
            have hown : U32 R.own := by rw [← hR]; unfold Pl.readR; split <;> exact HO.out.lies.own
            rw [hnn]
            have hnl : news.length = nn := by rw [← hnews, ← hnn, List.length_take]; have := Pl.cut_len A m; omega
            have hng : nn ≤ 200 := by
              have e1 := hgr.kgl
              rw [List.length_append, HP.out.2.1] at e1
              omega
            have hgl0 : gl ≤ 200 := by
              have e1 := HO.out.good.kgl
              rw [HO.out.len, HP.out.2.1] at e1
              omega
            have hlow := good_low hgr HP.out.2.2.1 hown
            have HA5 : Hid (Pl.Good R ts (got ++ news) irs ∧ RvOwn W5 X3.heap.size R k2 ∧ SlAt W5 da dc news ∧ Box W5 g2 27 [.int .i64 R.s.n, .slice k2.ua R.s.u.length k2.uc, .slice k2.la k2.es.length k2.lc, .int .i64 R.cap, .int .i64 R.shift, .int .i64 R.edge, .int .u32 R.recent, .bool R.stamps, .bool R.sacks, .int .i64 R.fin, .bool R.dn, .slice k2.fa R.first.length k2.fc, .int .u32 R.irs, .int .u32 R.own, .bool R.stamp] ∧ X3.heap.size ≤ g2 ∧ Below X3.heap.size X3 W5 ∧ U32 R.recent ∧ U32 R.irs ∧ U32 R.own) := ⟨hgr, hO5, hS5, hbx5, hgw5, hB5, hlow.1, hlow.2.1, hlow.2.2⟩
            have HNL : Hid (news.length = nn) := hnl
            clear e13 e16 e19 hcq hm hnews hnn hgr hO5 hS5 hbx5 hgw5 hB5 hlow hnl hR hown
            as_aux_lemma =>
              go_upto_region 20 with fail
              refine wp_appR rfl rfl rfl rfl rfl rfl rfl rfl rfl rfl rfl rfl X1.heap.size ga gl gc got da nn dc news rfl rfl rfl rfl (fun _ => rfl) (HO.out.row.later HA5.out.2.2.2.2.2.1) HA5.out.2.2.1.1 HNL.out HA5.out.2.2.1.2.1 (by omega) (Nat.le_trans HO.out.Bs HA5.out.2.2.2.2.2.1.size) ?_
              intro ga2 gc2 w6 hr6 hb6 hg6
              have hrow : ∀ kk, Value.ownBlock (.slice ga gl gc) = some kk → kk < X3.heap.size := by
                intro kk hkk
                rcases HO.out.row.at with e | ⟨gg, e, _, hlt, _⟩
                · subst e; simp [Value.ownBlock] at hkk
                · subst e; simp [Value.ownBlock] at hkk; omega
              have hb9 : Box w6 w1.heap.size 27 [.int .i64 A.s.n, .slice k.ua A.s.u.length k.uc, .slice k.la k.es.length k.lc, .int .i64 A.cap, .int .i64 A.shift, .int .i64 A.edge, .int .u32 A.recent, .bool A.stamps, .bool A.sacks, .int .i64 A.fin, .bool A.dn, .slice k.fa A.first.length k.fc, .int .u32 A.irs, .int .u32 A.own, .bool A.stamp] := (HO.out.box.later HA5.out.2.2.2.2.2.1).below hb6 HO.out.gB
              have hb2 : Box w6 g2 27 [.int .i64 R.s.n, .slice k2.ua R.s.u.length k2.uc, .slice k2.la k2.es.length k2.lc, .int .i64 R.cap, .int .i64 R.shift, .int .i64 R.edge, .int .u32 R.recent, .bool R.stamps, .bool R.sacks, .int .i64 R.fin, .bool R.dn, .slice k2.fa R.first.length k2.fc, .int .u32 R.irs, .int .u32 R.own, .bool R.stamp] := HA5.out.2.2.2.1.grown (HO.out.row.later HA5.out.2.2.2.2.2.1) (by decide) hg6
              have HB6 : Hid (Row w6 X1.heap.size ga2 (gl + nn) gc2 (got ++ news) ∧ RvOwn w6 X3.heap.size R k2 ∧ Box w6 w1.heap.size 27 [.int .i64 A.s.n, .slice k.ua A.s.u.length k.uc, .slice k.la k.es.length k.lc, .int .i64 A.cap, .int .i64 A.shift, .int .i64 A.edge, .int .u32 A.recent, .bool A.stamps, .bool A.sacks, .int .i64 A.fin, .bool A.dn, .slice k.fa A.first.length k.fc, .int .u32 A.irs, .int .u32 A.own, .bool A.stamp] ∧ Box w6 g2 27 [.int .i64 R.s.n, .slice k2.ua R.s.u.length k2.uc, .slice k2.la k2.es.length k2.lc, .int .i64 R.cap, .int .i64 R.shift, .int .i64 R.edge, .int .u32 R.recent, .bool R.stamps, .bool R.sacks, .int .i64 R.fin, .bool R.dn, .slice k2.fa R.first.length k2.fc, .int .u32 R.irs, .int .u32 R.own, .bool R.stamp] ∧ Below w.heap.size w w6 ∧ X1.heap.size ≤ w6.heap.size) :=
                ⟨hr6, HA5.out.2.1.grown hg6 hrow, hb9, hb2, (Below.on HO.out.bel HA5.out.2.2.2.2.2.1).trans (hb6.mono (Nat.le_of_lt (Nat.lt_of_le_of_lt HO.out.wg HO.out.gB))), Nat.le_trans (Nat.le_trans HO.out.Bs HA5.out.2.2.2.2.2.1.size) hb6.size⟩
              clear hb6 hg6 hrow hb9 hb2
              obtain ⟨GL, hGL⟩ : ∃ GL, gl + nn = GL := ⟨_, rfl⟩
              have HGL : Hid (gl + nn = GL) := hGL
              rw [hGL] at HB6 hr6
              simp only [Act.put, List.setIfInBounds_toArray, List.set_cons_zero, List.set_cons_succ]
              rw [hGL]
              clear hGL hr6
              go_upto_region 21 with fail
              refine wp_copyR rfl rfl rfl rfl rfl rfl R k2 (gs := g2) (gd := w1.heap.size) rfl rfl rfl HB6.out.2.2.2.1 rfl HB6.out.2.2.1 ?_
              intro X7 hX7
              have HO7 : Hid (OrdAt w X7 X1.heap.size w1.heap.size R k2 ts (got ++ news) irs ga2 GL gc2) := by
                have hO7 : RvOwn X7 X3.heap.size R k2 := by rw [← hX7]; exact HB6.out.2.1.besideR HB6.out.2.2.1 0 _
                exact { good := HA5.out.1, len := (by rw [List.length_append, HO.out.len, HNL.out, HGL.out]), lies := hO7.atOk HA5.out.1.ok HA5.out.2.2.2.2.2.2.1 HA5.out.2.2.2.2.2.2.2.1 HA5.out.2.2.2.2.2.2.2.2
                        box := (by rw [← hX7]; exact HB6.out.2.2.1.put (rvL R k2) rfl), row := (by rw [← hX7]; exact ownsRow_setAll HB6.out.1 _ _ _ HO.out.gB)
                        bel := (by rw [← hX7]; exact setAll_below HO.out.wg HB6.out.2.2.2.2.1), gB := HO.out.gB, wg := HO.out.wg
                        Bs := (by rw [← hX7, setAll_size]; exact HB6.out.2.2.2.2.2) }
              clear hX7 HB6 HA5 HO HNL HGL hng hgl0
              simp only [Act.put, List.setIfInBounds_toArray, List.set_cons_zero, List.set_cons_succ]
              have HO := HO7
              clear HO7
              as_aux_lemma =>
                have hgl := HO.out.good.kgl
                rw [HO.out.len, HP.out.2.1] at hgl
                have hgt : ¬ (tn : Int) < (GL : Int) := by omega
                have hsum : (GL : Int) + (R.s.u.length : Int) = R.s.n := by
                  have e1 := HO.out.good.kbot
                  rw [HO.out.len] at e1
                  have e2 : R.s.bot = R.s.n - (R.s.u.length : Int) := rfl
                  omega
                have hnb : 0 ≤ R.s.n ∧ R.s.n ≤ 200 := by
                  have e1 := HO.out.good.next
                  rw [HP.out.2.1] at e1
                  omega
                have hne : ((GL : Int) + (R.s.u.length : Int) != R.s.n) = false := by simp [hsum]
                have hsl : ∀ W, (Instr.slice 22 (.slice ta tn tc) none (some (.int .i64 (GL : Int))) none).run Try.prog W = .ok (.slice ta GL tc) W := fun W => sl_h ta tn tc GL _ rfl (by have := HP.out.1.2.2; rw [HP.out.2.1] at this; omega) W
                have hbg : Byts ts := HP.out.1.1.2.1
                have hsm : ∀ W, Below X7.heap.size X7 W → Calls Try.prog 21 #[.slice ga2 GL gc2, .slice ta GL tc] W fun e w' => e = .returned (.bool true) ∧ w' = W := fun W hW => by
                  have hgot := HO.out.good.kgot
                  rw [HO.out.len] at hgot
                  have e1 : (ts.take GL).length = GL := by rw [List.length_take, HP.out.2.1]; omega
                  have hb1 : BytesAt W ga2 (got ++ news) := (HO.out.row.later hW).bytes (by rw [hgot]; intro z hz; exact hbg z (List.mem_of_mem_take hz)) (by rw [HO.out.len]; omega)
                  have hb2 : BytesAt W ta (ts.take GL) := (((HP.out.1.later HO.out.bel).later hW).take GL).1
                  have := same_any ga2 ta gc2 tc (got ++ news) (ts.take GL) W hb1 hb2
                  rw [HO.out.len, e1, ← hgot] at this
                  simpa using this
                have hS0 := hsm X7 (Below.refl _ _)
                clear hsm hbg
                obtain ⟨c0, c1, c2, c3, c4, c5, c6, c7, c8, c9, c10, c11, c12, c13, c14⟩ := Box.c15 HO.out.box
                go_wp2_with fail
                refine hS0.mono ?_
                rintro e wz ⟨rfl, hwz⟩
                obtain rfl := hwz.symm
                go_wp2_with fail
                go_roundw
                case rel => exact ⟨R, k2, got ++ news, ga2, GL, gc2, i + 1, rfl, by go_num, by omega, HO⟩
                case measure => simp [intOf]; omega
          · have hrd' : ¬ (i : Int) < (qn : Int) := by omega
            skip
            have hgl := HO.out.good.kgl
            rw [HO.out.len, HP.out.2.1] at hgl
            have hgt : ¬ (tn : Int) < (gl : Int) := by omega
            have hsum : (gl : Int) + (A.s.u.length : Int) = A.s.n := by
              have e1 := HO.out.good.kbot
              rw [HO.out.len] at e1
              have e2 : A.s.bot = A.s.n - (A.s.u.length : Int) := rfl
              omega
            have hnb : 0 ≤ A.s.n ∧ A.s.n ≤ 200 := by
              have e1 := HO.out.good.next
              rw [HP.out.2.1] at e1
              omega
            have hne : ((gl : Int) + (A.s.u.length : Int) != A.s.n) = false := by simp [hsum]
            have hsl : ∀ W, (Instr.slice 22 (.slice ta tn tc) none (some (.int .i64 (gl : Int))) none).run Try.prog W = .ok (.slice ta gl tc) W := fun W => sl_h ta tn tc gl _ rfl (by have := HP.out.1.2.2; rw [HP.out.2.1] at this; omega) W
            have hbg : Byts ts := HP.out.1.1.2.1
            have hsm : ∀ W, Below X3.heap.size X3 W → Calls Try.prog 21 #[.slice ga gl gc, .slice ta gl tc] W fun e w' => e = .returned (.bool true) ∧ w' = W := fun W hW => by
              have hgot := HO.out.good.kgot
              rw [HO.out.len] at hgot
              have e1 : (ts.take gl).length = gl := by rw [List.length_take, HP.out.2.1]; omega
              have hb1 : BytesAt W ga got := (HO.out.row.later hW).bytes (by rw [hgot]; intro z hz; exact hbg z (List.mem_of_mem_take hz)) (by rw [HO.out.len]; omega)
              have hb2 : BytesAt W ta (ts.take gl) := (((HP.out.1.later HO.out.bel).later hW).take gl).1
              have := same_any ga ta gc tc got (ts.take gl) W hb1 hb2
              rw [HO.out.len, e1, ← hgot] at this
              simpa using this
            have hS0 := hsm X3 (Below.refl _ _)
            clear hsm hbg
            obtain ⟨c0, c1, c2, c3, c4, c5, c6, c7, c8, c9, c10, c11, c12, c13, c14⟩ := Box.c15 HO.out.box
            go_wp2_with fail
            refine hS0.mono ?_
            rintro e wz ⟨rfl, hwz⟩
            obtain rfl := hwz.symm
            go_wp2_with fail
            go_roundw
            case rel => exact ⟨A, k, got, ga, gl, gc, i + 1, rfl, by go_num, by omega, HO⟩
            case measure => simp [intOf]; omega
    · go_upto_region 24 with fail
      refine reg24 (r := r) (h := h) (irs := irs) (ta := ta) (tc := tc) (L := tn) (ts := ts) (g9 := w1.heap.size) rfl rfl rfl rfl HR.out.box HR.out.lies HR.out.good.ok (HP.out.1.later HR.out.bel) HP.out.2.1 (by rw [HP.out.2.1]; exact h1) HP.out.2.2.1 ?_
      intro v W2 s t A k g hpart ht0 hA hO hbx hgw hB2 e12 e16 e17
      obtain rfl := ht0 (by rw [HP.out.2.1]; omega)
      obtain ⟨_, _, hgA, _, _⟩ := Pl.good_into HR.out.good hpart
      obtain ⟨_, _, hall, hdn⟩ := Pl.good_all HR.out.good hpart
      rw [hA] at hgA hall hdn
      have hown : U32 A.own := by rw [← hA, (in_low (r := r) (g := segOf s)).2.1]; exact HR.out.lies.own
      have hlow := good_low hgA HP.out.2.2.1 hown
      rw [HP.out.2.1] at hall hdn
      have hrd := recvRead_ok A k (tn : Int) W2 (hO.atOk hgA.ok hlow.1 hlow.2.1 hlow.2.2) hgA.ok
      obtain ⟨R, hR⟩ : ∃ R, Pl.readR A (tn : Int) = R := ⟨_, rfl⟩
      obtain ⟨nn, hnn⟩ : ∃ x, Pl.rdN A (tn : Int) = x := ⟨_, rfl⟩
      obtain ⟨news, hnews⟩ : ∃ x, A.s.u.take nn = x := ⟨_, rfl⟩
      rw [hR] at hdn
      rw [hnn, hnews] at hall
      have hnl : news.length = nn := by rw [← hnews, ← hnn, List.length_take]; have := Pl.cut_len A (tn : Int); omega
      have hgn : gl + nn = tn := by
        have e1 := congrArg List.length hall
        rw [List.length_append, HR.out.len, hnl, HP.out.2.1] at e1
        exact e1
      have HA2 : Hid (Box W2 g 27 [.int .i64 A.s.n, .slice k.ua A.s.u.length k.uc, .slice k.la k.es.length k.lc, .int .i64 A.cap, .int .i64 A.shift, .int .i64 A.edge, .int .u32 A.recent, .bool A.stamps, .bool A.sacks, .int .i64 A.fin, .bool A.dn, .slice k.fa A.first.length k.fc, .int .u32 A.irs, .int .u32 A.own, .bool A.stamp] ∧ Below w.heap.size w W2 ∧ Row W2 X1.heap.size ga gl gc got ∧ X1.heap.size ≤ W2.heap.size ∧ got ++ news = ts ∧ news.length = nn ∧ gl + nn = tn ∧ X1.heap.size ≥ w.heap.size) := ⟨hbx, Below.on HR.out.bel hB2, HR.out.row.later hB2, Nat.le_trans HR.out.Bs hB2.size, hall, hnl, hgn, Nat.le_of_lt (Nat.lt_of_le_of_lt HR.out.wg HR.out.gB)⟩
      have HDN : Hid (R.dn = true) := hdn
      clear hdn
      have HRD : Hid (Calls Try.prog 12 #[.agg #[.int .i64 A.s.n, .slice k.ua A.s.u.length k.uc, .slice k.la k.es.length k.lc, .int .i64 A.cap, .int .i64 A.shift, .int .i64 A.edge, .int .u32 A.recent, .bool A.stamps, .bool A.sacks, .int .i64 A.fin, .bool A.dn, .slice k.fa A.first.length k.fc, .int .u32 A.irs, .int .u32 A.own, .bool A.stamp], .int .i64 (tn : Int)] W2 fun e w' => ∃ (k : Hd) (da : Option Addr) (dc : Nat) (T : Seg) (ks : Hs) (bo : Bool), e = .returned (.tuple #[.agg #[.int .i64 R.s.n, .slice k.ua R.s.u.length k.uc, .slice k.la k.es.length k.lc, .int .i64 R.cap, .int .i64 R.shift, .int .i64 R.edge, .int .u32 R.recent, .bool R.stamps, .bool R.sacks, .int .i64 R.fin, .bool R.dn, .slice k.fa R.first.length k.fc, .int .u32 R.irs, .int .u32 R.own, .bool R.stamp], .slice da nn dc, .agg #[.int .i64 T.sp, .int .i64 T.dp, .int .u32 T.sq, .int .u32 T.ak, .int .i64 T.fl, .int .i64 T.wn, .int .i64 T.ur, .int .i64 T.ms, .int .i64 T.sc, .bool T.so, .bool T.st, .int .u32 T.va, .int .u32 T.ec, .slice ks.ka T.sk.length ks.kc, .slice ks.da T.da.length ks.dc], .bool bo, .int .i64 0]) ∧ SlAt w' da dc news ∧ Below W2.heap.size W2 w') := by
        refine hrd.mono ?_
        rintro e w' ⟨k, da, dc, ks, he, _, hS, _, hB⟩
        rw [hR] at he
        rw [hnn] at he hS
        rw [hnews] at hS
        exact ⟨k, da, dc, _, ks, _, he, hS, hB⟩
      simp only [Act.put, List.setIfInBounds_toArray, List.set_cons_zero, List.set_cons_succ]
      rw [e12, e16, e17]
      clear e12 e16 e17 hpart hA hgA hown hlow hO hbx hgw hB2 hall hnl hgn hrd hR hnn hnews HR ht0
      as_aux_lemma =>
        obtain ⟨c0, c1, c2, c3, c4, c5, c6, c7, c8, c9, c10, c11, c12, c13, c14⟩ := Box.c15 HA2.out.1
        go_wp2_with fail
        refine HRD.out.mono ?_
        rintro e w3 ⟨k2, da, dc, T, ks, bo, rfl, hS3, hB3⟩
        clear c0 c1 c2 c3 c4 c5 c6 c7 c8 c9 c10 c11 c12 c13 c14 HRD
        go_upto_region 26 with fail
        obtain ⟨X4, hX4⟩ : ∃ X4, (w3.alloc (.cells #[.int .i64 R.s.n, .slice k2.ua R.s.u.length k2.uc, .slice k2.la k2.es.length k2.lc, .int .i64 R.cap, .int .i64 R.shift, .int .i64 R.edge, .int .u32 R.recent, .bool R.stamps, .bool R.sacks, .int .i64 R.fin, .bool R.dn, .slice k2.fa R.first.length k2.fc, .int .u32 R.irs, .int .u32 R.own, .bool R.stamp] 27)).alloc (.cells #[.int .i64 T.sp, .int .i64 T.dp, .int .u32 T.sq, .int .u32 T.ak, .int .i64 T.fl, .int .i64 T.wn, .int .i64 T.ur, .int .i64 T.ms, .int .i64 T.sc, .bool T.so, .bool T.st, .int .u32 T.va, .int .u32 T.ec, .slice ks.ka T.sk.length ks.kc, .slice ks.da T.da.length ks.dc] 34) = X4 := ⟨_, rfl⟩
        have hb4 : Below w3.heap.size w3 X4 := by rw [← hX4]; exact below_more (below_more (Below.refl _ _) _) _
        have hbx4 : Box X4 w3.heap.size 27 [.int .i64 R.s.n, .slice k2.ua R.s.u.length k2.uc, .slice k2.la k2.es.length k2.lc, .int .i64 R.cap, .int .i64 R.shift, .int .i64 R.edge, .int .u32 R.recent, .bool R.stamps, .bool R.sacks, .int .i64 R.fin, .bool R.dn, .slice k2.fa R.first.length k2.fc, .int .u32 R.irs, .int .u32 R.own, .bool R.stamp] := by rw [← hX4]; exact (Box.new w3 27 [.int .i64 R.s.n, .slice k2.ua R.s.u.length k2.uc, .slice k2.la k2.es.length k2.lc, .int .i64 R.cap, .int .i64 R.shift, .int .i64 R.edge, .int .u32 R.recent, .bool R.stamps, .bool R.sacks, .int .i64 R.fin, .bool R.dn, .slice k2.fa R.first.length k2.fc, .int .u32 R.irs, .int .u32 R.own, .bool R.stamp]).alloc _
        rw [hX4]
        clear hX4
        have hB4 : Below W2.heap.size W2 X4 := Below.on hB3 hb4
        have HA4 : Hid (SlAt X4 da dc news ∧ Row X4 X1.heap.size ga gl gc got ∧ Below w.heap.size w X4 ∧ X1.heap.size ≤ X4.heap.size) := ⟨hS3.later hb4, HA2.out.2.2.1.later hB4, Below.on HA2.out.2.1 hB4, Nat.le_trans HA2.out.2.2.2.1 hB4.size⟩
        obtain ⟨c0, c1, c2, c3, c4, c5, c6, c7, c8, c9, c10, c11, c12, c13, c14⟩ := Box.c15 hbx4
        rw [HDN.out] at c10
        have hgb : gl + nn ≤ 140737488355328 := by have := HA2.out.2.2.2.2.2.2.1; omega
        clear hS3 hB3 hb4 hbx4 hB4
        as_aux_lemma =>
          have HNL := HA2.out.2.2.2.2.2.1
          go_wp2_with (first | (at_builtin; refine list_appG rfl (.tmp 194) (.tmp 195) rfl X1.heap.size ga gl gc got da nn dc news rfl rfl HA4.out.2.1 HA4.out.1.1 HNL HA4.out.1.2.1 hgb HA4.out.2.2.2 ?_; intro ga2 gc2 w6 hr6 hb6 hg6))
          have hB6 : Below w.heap.size w w6 := HA4.out.2.2.1.trans (hb6.mono HA2.out.2.2.2.2.2.2.2)
          have hsm := same_any ga2 ta gc2 tc (got ++ news) ts w6 (hr6.bytes (by rw [HA2.out.2.2.2.2.1]; exact HP.out.1.1.2.1) (by rw [hr6.len]; have := HA2.out.2.2.2.2.2.2.1; omega)) (HP.out.1.later hB6).1
          rw [hr6.len, HP.out.2.1, HA2.out.2.2.2.2.1] at hsm
          simp only [decide_true] at hsm
          refine hsm.mono ?_
          rintro e wz ⟨rfl, hwz⟩
          obtain rfl := hwz.symm
          clear c0 c1 c2 c3 c4 c5 c6 c7 c8 c9 c10 c11 c12 c13 c14 hsm
          go_wp2_with fail
          refine (kh _).mono ?_
          rintro e w8 ⟨rfl, hB8⟩
          go_wp2_with fail
          go_ret
          exact ⟨rfl, Below.on hB6 hB8⟩
set_option maxRecDepth 100000 in
set_option maxHeartbeats 4000000 in
theorem orders_out (ta : Option Addr) (tn tc : Nat) (irs : Int) (pa : Option Addr) (pn pc : Nat) (qa : Option Addr) (qn qc : Nat) (w : World) (h : 200 < tn ∨ (tn ≤ 200 ∧ 200 < pn)) :
    Calls Try.prog 8 #[.slice ta tn tc, .int .u32 irs, .slice pa pn pc, .slice qa qn qc] w fun e w' => e = .returned (.bool true) ∧ Below w.heap.size w w' := by
  have kh := heads_any
  rcases h with h | ⟨h1, h2⟩
  · have h' : (200 : Int) < (tn : Int) := by omega
    go_enter Try.func8, Try.ntmps8
    go_wp2_with fail
    refine (kh _).mono ?_
    rintro e w8 ⟨rfl, hB8⟩
    go_wp2_with fail
    go_ret
    exact ⟨rfl, hB8⟩
  · have h1' : ¬ (200 : Int) < (tn : Int) := by omega
    have h2' : (200 : Int) < (pn : Int) := by omega
    go_enter Try.func8, Try.ntmps8
    go_wp2_with fail
    refine (kh _).mono ?_
    rintro e w8 ⟨rfl, hB8⟩
    go_wp2_with fail
    go_ret
    exact ⟨rfl, hB8⟩
theorem orders_walk (ta : Option Addr) (tn tc : Nat) (ts : List Int) (irs : Int) (pa : Option Addr) (pn pc : Nat) (ps : List Int) (qa : Option Addr) (qn qc : Nat) (qs : List Int) (w : World)
    (hT : SlAt w ta tc ts) (ht : ts.length = tn) (hi : U32 irs) (hP : IntsAt w pa ps) (hp : ps.length = pn) (hpb : pn ≤ 9223372036854775807) (hQ : IntsAt w qa qs) (hq : qs.length = qn) (hqb : qn ≤ 9223372036854775807) :
    Calls Try.prog 8 #[.slice ta tn tc, .int .u32 irs, .slice pa pn pc, .slice qa qn qc] w fun e w' => e = .returned (.bool true) ∧ Below w.heap.size w w' := by
  by_cases h1 : tn ≤ 200
  · by_cases h2 : pn ≤ 200
    · exact orders_go ta tn tc ts irs pa pn pc ps qa qn qc qs w hT ht hi hP hp hQ hq hqb h1 h2
    · exact orders_out ta tn tc irs pa pn pc qa qn qc w (.inr ⟨h1, by omega⟩)
  · exact orders_out ta tn tc irs pa pn pc qa qn qc w (.inl (by omega))
end Go.Proofs.Ytkigcdmlkmcdcaa
