/- The walk of BbrSteady. -/
import Derived.Test.YtagmighcofllhaaDoorStM
import Derived.Test.YtagmighcofllhaaDoorKHeads
import Derived.Handy
namespace Go.Proofs.YtagmighcofllhaaDoor
open Go.ChangeShapes Go.WideShapes Go.ChangeAt Go.RowKit
set_option linter.unusedVariables false
set_option linter.unusedSimpArgs false

open Fil
section
variable {ops : Array Oper} {rest : List Oper} {o : Oper} {a : Act} {w : World} {Q : Exit → Act → World → Prop}
theorem wpS_build7 (hgd : o.guard = none) {ty : TypeId} {x0 x1 x2 x3 x5 x6 x7 : Operand} (ho : o.op = .build ty #[(0, x0), (1, x1), (2, x2), (3, x3), (5, x5), (6, x6), (7, x7)]) {v0 v1 v2 v3 v5 v6 v7 : Value} {cs : List Value}
    (hb : Tryd.prog.built ty [(0, v0), (1, v1), (2, v2), (3, v3), (5, v5), (6, v6), (7, v7)] = some cs.toArray) (h0 : a.eval x0 = v0) (h1 : a.eval x1 = v1) (h2 : a.eval x2 = v2) (h3 : a.eval x3 = v3) (h5 : a.eval x5 = v5) (h6 : a.eval x6 = v6) (h7 : a.eval x7 = v7) (h : wpList Tryd.prog ops Q rest (a.put o.dst (agv cs)) w) : wpList Tryd.prog ops Q (o :: rest) a w := wpS_build hgd ho (by simpa [h0, h1, h2, h3, h5, h6, h7] using hb) h
end
theorem built28s (nw ak t r gv bf : Int) : Tryd.prog.built 28 [(0, .int .i64 nw), (1, .int .i64 ak), (2, .int .i64 t), (3, .int .i64 r), (5, .int .i64 gv), (6, .int .i64 bf), (7, .int .i64 0)] = some (smL ⟨nw, ak, t, r, false, gv, bf, 0⟩).toArray := by kernel_rfl
theorem st_bn {m r t : Int} {i : Nat} {d : Cc} {fs : List Tm} (h : StI m r t i d fs) {W : World} (hW : Fil.RowT W 0 d.ba d.bn d.bc fs) : d.bn * 16 ≤ 140737488351232 := by
  have hl : fs.length ≤ 1 := by rw [h.fs]; split <;> simp
  have : fs.length = d.bn := Fil.RowT.len hW
  omega

set_option maxRecDepth 100000 in
set_option maxHeartbeats 4000000 in
theorem std_0 (w : World) (m r t : Int) (hG : Hid (G8 w)) (d0 : decide (m < 1) = true)  : Calls Tryd.prog 6 #[.int .i64 m, .int .i64 r, .int .i64 t] w fun e w' => e = .returned (.bool true) ∧ Below w.heap.size w w' := by
  have kh : Hid (∀ W, G8 W → Calls Tryd.prog 19 #[] W fun e w' => e = .returned (.bool true) ∧ Below W.heap.size W w') := heads_any
  go_enter Tryd.func6, Tryd.ntmps6
  go_wp2_with fail
  refine (kh.out _ hG.out).mono ?_
  rintro e w1 ⟨rfl, hB⟩
  have HX1 : Hid (Below w.heap.size w w1 ∧ True) := by
    have hb := Below.refl w.heap.size w
    exact ⟨Below.on hb hB, trivial⟩
  clear hB 
  go_wp2_with fail
  go_ret
  exact ⟨rfl, HX1.out.1⟩

set_option maxRecDepth 100000 in
set_option maxHeartbeats 4000000 in
theorem std_1 (w : World) (m r t : Int) (hG : Hid (G8 w)) (d0 : decide (m < 1) = false) (d1 : decide (10000 < m) = true)  : Calls Tryd.prog 6 #[.int .i64 m, .int .i64 r, .int .i64 t] w fun e w' => e = .returned (.bool true) ∧ Below w.heap.size w w' := by
  have kh : Hid (∀ W, G8 W → Calls Tryd.prog 19 #[] W fun e w' => e = .returned (.bool true) ∧ Below W.heap.size W w') := heads_any
  go_enter Tryd.func6, Tryd.ntmps6
  go_wp2_with fail
  refine (kh.out _ hG.out).mono ?_
  rintro e w1 ⟨rfl, hB⟩
  have HX1 : Hid (Below w.heap.size w w1 ∧ True) := by
    have hb := Below.refl w.heap.size w
    exact ⟨Below.on hb hB, trivial⟩
  clear hB 
  go_wp2_with fail
  go_ret
  exact ⟨rfl, HX1.out.1⟩

set_option maxRecDepth 100000 in
set_option maxHeartbeats 4000000 in
theorem std_2 (w : World) (m r t : Int) (hG : Hid (G8 w)) (d0 : decide (m < 1) = false) (d1 : decide (10000 < m) = false) (d2 : decide (r < 1000) = true)  : Calls Tryd.prog 6 #[.int .i64 m, .int .i64 r, .int .i64 t] w fun e w' => e = .returned (.bool true) ∧ Below w.heap.size w w' := by
  have kh : Hid (∀ W, G8 W → Calls Tryd.prog 19 #[] W fun e w' => e = .returned (.bool true) ∧ Below W.heap.size W w') := heads_any
  go_enter Tryd.func6, Tryd.ntmps6
  go_wp2_with fail
  refine (kh.out _ hG.out).mono ?_
  rintro e w1 ⟨rfl, hB⟩
  have HX1 : Hid (Below w.heap.size w w1 ∧ True) := by
    have hb := Below.refl w.heap.size w
    exact ⟨Below.on hb hB, trivial⟩
  clear hB 
  go_wp2_with fail
  go_ret
  exact ⟨rfl, HX1.out.1⟩

set_option maxRecDepth 100000 in
set_option maxHeartbeats 4000000 in
theorem std_3 (w : World) (m r t : Int) (hG : Hid (G8 w)) (d0 : decide (m < 1) = false) (d1 : decide (10000 < m) = false) (d2 : decide (r < 1000) = false) (d3 : decide (1073741824 < r) = true)  : Calls Tryd.prog 6 #[.int .i64 m, .int .i64 r, .int .i64 t] w fun e w' => e = .returned (.bool true) ∧ Below w.heap.size w w' := by
  have kh : Hid (∀ W, G8 W → Calls Tryd.prog 19 #[] W fun e w' => e = .returned (.bool true) ∧ Below W.heap.size W w') := heads_any
  go_enter Tryd.func6, Tryd.ntmps6
  go_wp2_with fail
  refine (kh.out _ hG.out).mono ?_
  rintro e w1 ⟨rfl, hB⟩
  have HX1 : Hid (Below w.heap.size w w1 ∧ True) := by
    have hb := Below.refl w.heap.size w
    exact ⟨Below.on hb hB, trivial⟩
  clear hB 
  go_wp2_with fail
  go_ret
  exact ⟨rfl, HX1.out.1⟩

set_option maxRecDepth 100000 in
set_option maxHeartbeats 4000000 in
theorem std_4 (w : World) (m r t : Int) (hG : Hid (G8 w)) (d0 : decide (m < 1) = false) (d1 : decide (10000 < m) = false) (d2 : decide (r < 1000) = false) (d3 : decide (1073741824 < r) = false) (d4 : decide (t < 1000) = true)  : Calls Tryd.prog 6 #[.int .i64 m, .int .i64 r, .int .i64 t] w fun e w' => e = .returned (.bool true) ∧ Below w.heap.size w w' := by
  have kh : Hid (∀ W, G8 W → Calls Tryd.prog 19 #[] W fun e w' => e = .returned (.bool true) ∧ Below W.heap.size W w') := heads_any
  go_enter Tryd.func6, Tryd.ntmps6
  go_wp2_with fail
  refine (kh.out _ hG.out).mono ?_
  rintro e w1 ⟨rfl, hB⟩
  have HX1 : Hid (Below w.heap.size w w1 ∧ True) := by
    have hb := Below.refl w.heap.size w
    exact ⟨Below.on hb hB, trivial⟩
  clear hB 
  go_wp2_with fail
  go_ret
  exact ⟨rfl, HX1.out.1⟩

set_option maxRecDepth 100000 in
set_option maxHeartbeats 4000000 in
theorem std_5 (w : World) (m r t : Int) (hG : Hid (G8 w)) (d0 : decide (m < 1) = false) (d1 : decide (10000 < m) = false) (d2 : decide (r < 1000) = false) (d3 : decide (1073741824 < r) = false) (d4 : decide (t < 1000) = false) (d5 : decide (1000000 < t) = true)  : Calls Tryd.prog 6 #[.int .i64 m, .int .i64 r, .int .i64 t] w fun e w' => e = .returned (.bool true) ∧ Below w.heap.size w w' := by
  have kh : Hid (∀ W, G8 W → Calls Tryd.prog 19 #[] W fun e w' => e = .returned (.bool true) ∧ Below W.heap.size W w') := heads_any
  go_enter Tryd.func6, Tryd.ntmps6
  go_wp2_with fail
  refine (kh.out _ hG.out).mono ?_
  rintro e w1 ⟨rfl, hB⟩
  have HX1 : Hid (Below w.heap.size w w1 ∧ True) := by
    have hb := Below.refl w.heap.size w
    exact ⟨Below.on hb hB, trivial⟩
  clear hB 
  go_wp2_with fail
  go_ret
  exact ⟨rfl, HX1.out.1⟩

set_option maxRecDepth 100000 in
set_option maxHeartbeats 4000000 in
theorem std_y (w : World) (m r t ak ra ta x0 x1 tg z P : Int) (hG : Hid (G8 w)) (d0 : decide (m < 1) = false) (d1 : decide (10000 < m) = false) (d2 : decide (r < 1000) = false) (d3 : decide (1073741824 < r) = false) (d4 : decide (t < 1000) = false) (d5 : decide (1000000 < t) = false) (HM : Hid ((1 ≤ m ∧ m ≤ 10000) ∧ (1000 ≤ r ∧ r ≤ 1073741824) ∧ (1000 ≤ t ∧ t ≤ 1000000) ∧ (0 ≤ ak ∧ ak ≤ 1073741824) ∧ P = prodI r t ∧ tg = stT m r t)) (q1 : r.tdiv 1000 = ra) (q2 : IntKind.i64.wrap ra = ra) (q3 : t.tdiv 1000 = ta) (q4 : IntKind.i64.wrap ta = ta) (q5 : IntKind.i64.wrap (ra * ta) = x0) (q6 : IntKind.i64.wrap (x0 + 1000000) = x1) (q7 : (if 1073741824 < x1 then 1073741824 else x1) = ak) (m4 : IntKind.i64.wrap (4 * m) = 4 * m) (p2 : IntKind.i64.wrap (2 * P) = 2 * P) (hmx : (if 4 * m < 2 * P then 2 * P else 4 * m) = tg) (hz : (if 1073741824 < tg then 1073741824 else tg) = z) (m10 : IntKind.i64.wrap (10 * m) = 10 * m) (c1 : ∀ W, Calls Tryd.prog 22 #[.int .i64 m, .int .i64 10] W fun e w' => e = .returned (.tuple #[ccv (st8 m 10), .int .i64 0]) ∧ Below W.heap.size W w')  : Calls Tryd.prog 6 #[.int .i64 m, .int .i64 r, .int .i64 t] w fun e w' => e = .returned (.bool true) ∧ Below w.heap.size w w' := by
  have kh : Hid (∀ W, G8 W → Calls Tryd.prog 19 #[] W fun e w' => e = .returned (.bool true) ∧ Below W.heap.size W w') := heads_any
  go_enter Tryd.func6, Tryd.ntmps6
  go_wp2_with fail
  refine (c1 _).mono ?_
  rintro e w1 ⟨rfl, hB⟩
  have HX1 : Hid (Below w.heap.size w w1 ∧ True) := by
    have hb := Below.refl w.heap.size w
    exact ⟨Below.on hb hB, trivial⟩
  clear hB 
  clear c1
  go_wp2_with (first | (refine wpC_alloc rfl rfl zero26 ?_))
  intro X2 gc HN
  have HX2 : Hid (Below w.heap.size w X2 ∧ Box X2 gc 26 (ccL zC) ∧ w.heap.size ≤ gc ∧ True) := by
    obtain ⟨hb, _⟩ := HX1.out
    obtain ⟨hg, hb2, bn⟩ := HN.out
    have hz := hb.size
    exact ⟨Below.on hb hb2, bn, by omega, trivial⟩
  clear HN HX1
  go_wp2_with (first | (refine wpC_store rfl isC26 rfl rfl rfl rfl (HX2.out.2.1) rfl ?_))
  intro X3 HN
  have HX3 : Hid (Below w.heap.size w X3 ∧ Box X3 gc 26 (ccL (st8 m 10)) ∧ w.heap.size ≤ gc ∧ True) := by
    obtain ⟨hb, b0, l0, _⟩ := HX2.out
    obtain ⟨st, bn⟩ := HN.out
    exact ⟨st.below _ _ (by omega) hb, bn, l0, trivial⟩
  clear HN HX2
  go_wp2_with fail
  go_loopw [9, 10] (fun v9 v10 wr => ∃ (i : Nat) (d : Cc) (fs : List Tm) (G : Int), v9 = .int .i64 G ∧ v10 = .int .i64 (i : Int) ∧ Hid (1 ≤ i ∧ i ≤ 13 ∧ G = ((i : Int) - 1) * 1000 ∧ StI m r t i d fs) ∧ Hid (Below w.heap.size w wr ∧ Box wr gc 26 (ccL d) ∧ w.heap.size ≤ gc ∧ Fil.RowT wr 0 d.ba d.bn d.bc fs ∧ True))
      (fun _ vi _ => 14 - (intOf vi).toNat)
  case atStart => exact ⟨1, st8 m 10, [], 0, rfl, rfl, ⟨by omega, by omega, by omega, (st_new HM.out.1).2⟩, ⟨HX3.out.1, (HX3.out.2.1), HX3.out.2.2.1, Fil.RowT.nil _ _, trivial⟩⟩
  case round =>
    obtain ⟨i, d, fs, G, rfl, rfl, HI, HR⟩ := hrel
    clear HX3
    by_cases hi : i < 13
    · skip
      have hin : (i : Int) ≤ 12 := by omega
      have hin2 : decide ((i : Int) ≤ 12) = true := decide_eq_true hin
      have c8 : ∀ W, Fil.RowT W 0 d.ba d.bn d.bc fs → Calls Tryd.prog 8 #[ccv d, agv (smL (stS t r ak i))] W fun e w' => ∃ vb vj, e = .returned (.tuple #[ccv (rowed (ack8 d fs (stS t r ak i)) vb (bw8 d fs (stS t r ak i)).length vj), .int .i64 0]) ∧ Fil.RowT w' 0 vb (bw8 d fs (stS t r ak i)).length vj (bw8 d fs (stS t r ak i)) ∧ Below W.heap.size W w' := fun W hW =>
        ackR d fs (stS t r ak i) _ _ _ HI.out.2.2.2.ok (st_sm ⟨HI.out.1, by omega⟩ HM.out.2.1 HM.out.2.2.1 HM.out.2.2.2.1) (st_bn HI.out.2.2.2 hW) rfl rfl rfl W hW
      have hstep := st_step (ak := ak) HI.out.2.2.2 ⟨HI.out.1, by omega⟩ HM.out.1 HM.out.2.1 HM.out.2.2.1 HM.out.2.2.2.1
      obtain ⟨NW, hNW⟩ : ∃ NW, (i : Int) * t = NW := ⟨_, rfl⟩
      have hNW2 : 0 ≤ NW ∧ NW ≤ 12 * 1000000 := by
        rw [← hNW]
        exact ⟨Int.mul_nonneg (by omega) (by have := HM.out.2.2.1; omega), Int.mul_le_mul hin HM.out.2.2.1.2 (by have := HM.out.2.2.1; omega) (by omega)⟩
      have w1 : IntKind.i64.wrap ((i : Int) * t) = NW := by rw [hNW, IntKind.wrap_i64]; omega
      have hGb : 0 ≤ G ∧ G ≤ 12000 := by have := HI.out.2.2.1; have := HI.out.1; omega
      have w2 : IntKind.i64.wrap (G + 1000) = G + 1000 := by rw [IntKind.wrap_i64]; omega
      have eS : stS t r ak i = ⟨NW, ak, t, r, false, G + 1000, G, 0⟩ := by unfold stS; rw [hNW, HI.out.2.2.1]
      obtain ⟨S, hS⟩ : ∃ S, stS t r ak i = S := ⟨_, rfl⟩
      rw [hS] at eS c8 hstep
      have HS2 : Hid (S = ⟨NW, ak, t, r, false, G + 1000, G, 0⟩) := eS
      obtain ⟨D2, hD2⟩ : ∃ D, ack8 d fs S = D := ⟨_, rfl⟩
      obtain ⟨fs2, hfs2⟩ : ∃ D, bw8 d fs S = D := ⟨_, rfl⟩
      obtain ⟨L2, hL2⟩ : ∃ L, fs2.length = L := ⟨_, rfl⟩
      rw [hD2, hfs2] at hstep
      simp only [hD2, hfs2, hL2] at c8
      have HST : Hid (StI m r t (i + 1) D2 fs2) := hstep
      subst eS
      clear hstep hS hD2 hfs2 hL2 hNW hNW2 hGb HS2
      go_wp2_with (first | (refine wpC_load rfl isC26 rfl rfl (HR.out.2.1) ?_) | (refine wpS_build7 rfl rfl (built28s NW ak t r (G + 1000) G) rfl rfl rfl rfl rfl rfl rfl ?_) | fail)
      refine (c8 _ (HR.out.2.2.2.1)).mono ?_
      rintro e w41 ⟨vb, vj, rfl, hR, hB⟩
      have HX41 : Hid (Below w.heap.size w w41 ∧ Box w41 gc 26 (ccL d) ∧ w.heap.size ≤ gc ∧ Fil.RowT w41 0 d.ba d.bn d.bc fs ∧ Fil.RowT w41 0 vb L2 vj fs2 ∧ True) := by
        obtain ⟨hb, b0, l0, r0, _⟩ := HR.out
        exact ⟨Below.on hb hB, b0.later hB, l0, r0.later hB, hR, trivial⟩
      clear hB hR HR
      clear c8
      go_wp2_with (first | (refine wpC_alloc rfl rfl zero26 ?_))
      intro X42 gd HN
      have HX42 : Hid (Below w.heap.size w X42 ∧ Box X42 gc 26 (ccL d) ∧ Box X42 gd 26 (ccL zC) ∧ w.heap.size ≤ gc ∧ gc < gd ∧ Fil.RowT X42 0 d.ba d.bn d.bc fs ∧ Fil.RowT X42 0 vb L2 vj fs2 ∧ True) := by
        obtain ⟨hb, b0, l0, r0, r1, _⟩ := HX41.out
        obtain ⟨hg, hb2, bn⟩ := HN.out
        have z0 := b0.lt
        exact ⟨Below.on hb hb2, b0.later hb2, bn, l0, by omega, r0.later hb2, r1.later hb2, trivial⟩
      clear HN HX41
      go_wp2_with (first | (refine wpC_store rfl isC26 rfl rfl rfl rfl (HX42.out.2.2.1) rfl ?_))
      intro X43 HN
      have HX43 : Hid (Below w.heap.size w X43 ∧ Box X43 gc 26 (ccL d) ∧ Box X43 gd 26 (ccL (rowed D2 vb L2 vj)) ∧ w.heap.size ≤ gc ∧ gc < gd ∧ Fil.RowT X43 0 d.ba d.bn d.bc fs ∧ Fil.RowT X43 0 vb L2 vj fs2 ∧ True) := by
        obtain ⟨hb, b0, b1, l0, l1, r0, r1, _⟩ := HX42.out
        obtain ⟨st, bn⟩ := HN.out
        exact ⟨st.below _ _ (by omega) hb, b0.sto st (by omega), bn, l0, l1, r0.sto b1 (by decide) st, r1.sto b1 (by decide) st, trivial⟩
      clear HN HX42
      go_wp2_with (first | (refine wpC_load rfl isC26 rfl rfl (HX43.out.2.2.1) ?_) | (refine wpC_store rfl isC26 rfl rfl rfl rfl (HX43.out.2.1) rfl ?_))
      intro X44 HN
      have HX44 : Hid (Below w.heap.size w X44 ∧ Box X44 gc 26 (ccL (rowed D2 vb L2 vj)) ∧ Box X44 gd 26 (ccL (rowed D2 vb L2 vj)) ∧ w.heap.size ≤ gc ∧ gc < gd ∧ Fil.RowT X44 0 d.ba d.bn d.bc fs ∧ Fil.RowT X44 0 vb L2 vj fs2 ∧ True) := by
        obtain ⟨hb, b0, b1, l0, l1, r0, r1, _⟩ := HX43.out
        obtain ⟨st, bn⟩ := HN.out
        exact ⟨st.below _ _ (by omega) hb, bn, b1.sto st (by omega), l0, l1, r0.sto b0 (by decide) st, r1.sto b0 (by decide) st, trivial⟩
      clear HN HX43
      go_wp2_with fail
      go_roundw
      case rel => exact ⟨i + 1, rowed D2 vb L2 vj, fs2, G + 1000, by first | rfl | simp only [w2], by go_num, ⟨by omega, by omega, by have := HI.out.2.2.1; push_cast; omega, HST.out.rowed vb L2 vj⟩, ⟨HX44.out.1, (HX44.out.2.1), HX44.out.2.2.2.1, (HX44.out.2.2.2.2.2.2.1), trivial⟩⟩
      case measure => simp [intOf]; omega
    · skip
      have hin : ¬ (i : Int) ≤ 12 := by omega
      have hin2 : decide ((i : Int) ≤ 12) = false := decide_eq_false hin
      obtain rfl : i = 13 := by have := HI.out.2.1; omega
      have HF : Hid (d.fc = 3 ∧ d.md = 3 ∧ d.mr = t) := ⟨HI.out.2.2.2.fc, HI.out.2.2.2.md, HI.out.2.2.2.mr⟩
      have c15 : ∀ W, Fil.RowT W 0 d.ba d.bn d.bc fs → Calls Tryd.prog 15 #[ccv d] W fun e w' => e = .returned (.int .i64 P) ∧ Below W.heap.size W w' := fun W hW => by
        have := pr8_is d fs (ok8_cci (ok8_out HI.out.2.2.2.ok).1 (by have := st_bn HI.out.2.2.2 hW; omega)) (RowIn.of hW (st_bn HI.out.2.2.2 hW)).len W hW.tims
        rw [show prR d fs = P from by rw [HM.out.2.2.2.2.1]; unfold prR; rw [if_pos HI.out.2.2.2.ok, HI.out.2.2.2.mr, HI.out.2.2.2.fs]; rfl] at this
        exact this
      have c13 : ∀ W, Fil.RowT W 0 d.ba d.bn d.bc fs → Calls Tryd.prog 13 #[ccv d] W fun e w' => e = .returned (.int .i64 r) ∧ Below W.heap.size W w' := fun W hW => by
        have := bw8_is d fs (ok8_cci (ok8_out HI.out.2.2.2.ok).1 (by have := st_bn HI.out.2.2.2 hW; omega)) (RowIn.of hW (st_bn HI.out.2.2.2 hW)).len W hW.tims
        rw [show bwR d fs = r from by unfold bwR; rw [if_pos HI.out.2.2.2.ok, HI.out.2.2.2.fs]; rfl] at this
        exact this
      have HC : Hid (d.cw = min tg 1073741824 ∨ (10 * m ≤ d.cw ∧ d.cw < tg)) := by rw [HM.out.2.2.2.2.2]; exact HI.out.2.2.2.cw
      go_wp2_with (first | (refine wpC_load rfl isC26 rfl rfl (HR.out.2.1) ?_) | fail)
      refine (c15 _ (HR.out.2.2.2.1)).mono ?_
      rintro e w61 ⟨rfl, hB⟩
      have HX61 : Hid (Below w.heap.size w w61 ∧ Box w61 gc 26 (ccL d) ∧ w.heap.size ≤ gc ∧ Fil.RowT w61 0 d.ba d.bn d.bc fs ∧ True) := by
        obtain ⟨hb, b0, l0, r0, _⟩ := HR.out
        exact ⟨Below.on hb hB, b0.later hB, l0, r0.later hB, trivial⟩
      clear hB HR
      clear c15
      have k17 : w61.cell? ⟨gc, 17, none⟩ = some (.int .i64 3) := by
        have := Box.cell (HX61.out.2.1) 17 rfl
        rw [HF.out.1] at this
        exact this
      have k10 : w61.cell? ⟨gc, 10, none⟩ = some (.int .i64 3) := by
        have := Box.cell (HX61.out.2.1) 10 rfl
        rw [HF.out.2.1] at this
        exact this
      go_wp2_with (first | (refine wpC_loadG (by rfl) isC26 rfl rfl (HX61.out.2.1) ?_) | fail)
      refine (c13 _ (HX61.out.2.2.2.1)).mono ?_
      rintro e w62 ⟨rfl, hB⟩
      have HX62 : Hid (Below w.heap.size w w62 ∧ Box w62 gc 26 (ccL d) ∧ w.heap.size ≤ gc ∧ Fil.RowT w62 0 d.ba d.bn d.bc fs ∧ True) := by
        obtain ⟨hb, b0, l0, r0, _⟩ := HX61.out
        exact ⟨Below.on hb hB, b0.later hB, l0, r0.later hB, trivial⟩
      clear hB HX61
      clear c13 k17 k10
      have k12 : w62.cell? ⟨gc, 12, none⟩ = some (.int .i64 t) := by
        have := Box.cell (HX62.out.2.1) 12 rfl
        rw [HF.out.2.2] at this
        exact this
      have k2 := Box.cell (HX62.out.2.1) 2 rfl
      by_cases hcz : d.cw = z
      · have e0 : (d.cw == z) = true := by simpa using hcz
        go_wp2_with fail
        refine (kh.out _ (hG.out.below (HX62.out.1))).mono ?_
        rintro e w63 ⟨rfl, hB⟩
        have HX63 : Hid (Below w.heap.size w w63 ∧ Box w63 gc 26 (ccL d) ∧ w.heap.size ≤ gc ∧ Fil.RowT w63 0 d.ba d.bn d.bc fs ∧ True) := by
          obtain ⟨hb, b0, l0, r0, _⟩ := HX62.out
          exact ⟨Below.on hb hB, b0.later hB, l0, r0.later hB, trivial⟩
        clear hB HX62
        go_wp2_with fail
        go_ret
        exact ⟨rfl, HX63.out.1⟩
      · have e0 : (d.cw == z) = false := by simpa using hcz
        have hh : 10 * m ≤ d.cw ∧ d.cw < tg := by
          rcases HC.out with h | h
          · exact absurd (h.trans (by rw [← hz]; split <;> omega)) hcz
          · exact h
        have e1 : decide (d.cw < tg) = true := decide_eq_true hh.2
        have e2 : decide (10 * m ≤ d.cw) = true := decide_eq_true hh.1
        clear hh
        go_wp2_with fail
        refine (kh.out _ (hG.out.below (HX62.out.1))).mono ?_
        rintro e w63 ⟨rfl, hB⟩
        have HX63 : Hid (Below w.heap.size w w63 ∧ Box w63 gc 26 (ccL d) ∧ w.heap.size ≤ gc ∧ Fil.RowT w63 0 d.ba d.bn d.bc fs ∧ True) := by
          obtain ⟨hb, b0, l0, r0, _⟩ := HX62.out
          exact ⟨Below.on hb hB, b0.later hB, l0, r0.later hB, trivial⟩
        clear hB HX62
        go_wp2_with fail
        go_ret
        exact ⟨rfl, HX63.out.1⟩

theorem steady_walk (m r t : Int) (w : World) (_ : I64 m) (_ : I64 r) (_ : I64 t) (hG : G8 w) : Calls Tryd.prog 6 #[.int .i64 m, .int .i64 r, .int .i64 t] w fun e w' => e = .returned (.bool true) ∧ Below w.heap.size w w' := by
  by_cases h0 : m < 1
  · exact std_0 w m r t hG (decide_eq_true h0)
  have d0 := decide_eq_false h0
  by_cases h1 : 10000 < m
  · exact std_1 w m r t hG d0 (decide_eq_true h1)
  have d1 := decide_eq_false h1
  by_cases h2 : r < 1000
  · exact std_2 w m r t hG d0 d1 (decide_eq_true h2)
  have d2 := decide_eq_false h2
  by_cases h3 : 1073741824 < r
  · exact std_3 w m r t hG d0 d1 d2 (decide_eq_true h3)
  have d3 := decide_eq_false h3
  by_cases h4 : t < 1000
  · exact std_4 w m r t hG d0 d1 d2 d3 (decide_eq_true h4)
  have d4 := decide_eq_false h4
  by_cases h5 : 1000000 < t
  · exact std_5 w m r t hG d0 d1 d2 d3 d4 (decide_eq_true h5)
  have d5 := decide_eq_false h5
  have hP := prod_bd (b := r) (m := t) (by omega) (by omega)
  obtain ⟨hb, _⟩ := st_new (r := r) (t := t) (m := m) ⟨by omega, by omega⟩
  have ra : 1 ≤ r.tdiv 1000 ∧ r.tdiv 1000 ≤ 1073741 := by rw [Int.tdiv_eq_ediv_of_nonneg (by omega)]; omega
  have ta : 1 ≤ t.tdiv 1000 ∧ t.tdiv 1000 ≤ 1000 := by rw [Int.tdiv_eq_ediv_of_nonneg (by omega)]; omega
  have hx : 0 ≤ r.tdiv 1000 * t.tdiv 1000 ∧ r.tdiv 1000 * t.tdiv 1000 ≤ 1073741 * 1000 := ⟨Int.mul_nonneg (by omega) (by omega), Int.mul_le_mul ra.2 ta.2 (by omega) (by omega)⟩
  refine std_y w m r t _ _ _ _ _ _ _ _ hG d0 d1 d2 d3 d4 d5 ⟨⟨by omega, by omega⟩, ⟨by omega, by omega⟩, ⟨by omega, by omega⟩, ?_, rfl, rfl⟩ rfl (by rw [IntKind.wrap_i64]; omega) rfl (by rw [IntKind.wrap_i64]; omega) (show _ = r.tdiv 1000 * t.tdiv 1000 by rw [IntKind.wrap_i64]; omega) (show _ = r.tdiv 1000 * t.tdiv 1000 + 1000000 by rw [IntKind.wrap_i64]; omega) rfl (by rw [IntKind.wrap_i64]; omega) (by rw [IntKind.wrap_i64]; omega) (by unfold stT; split <;> omega) rfl (by rw [IntKind.wrap_i64]; omega) (fun W => ?_)
  · split <;> omega
  · have := knw8_is m 10 W
    unfold new8 newE at this
    rw [if_pos hb, if_pos hb] at this
    exact this
end Go.Proofs.YtagmighcofllhaaDoor
