/- grow, case by case. -/
import Derived.Test.YtikcjdoeoghoeaaKGr6
namespace Go.Proofs.Ytikcjdoeoghoeaa
open Go.ChangeShapes Go.WideShapes Go.ChangeAt Go.RowKit
set_option linter.unusedVariables false


set_option maxRecDepth 100000 in
set_option maxHeartbeats 4000000 in
theorem kgro_yl (c : Cc) (g : Nat) (n now srtt : Int) (d : Cc) (he : c.ep = -1) (kb : ∀ W, Box W g 48 (ccL c) → Calls Try.prog 50 #[.pointer (some ⟨g, 0, none⟩), .int .i64 now] W fun e w' => e = .returned (.tuple #[]) ∧ Chg W g w' ∧ Box w' g 48 (ccL d)) (t cv aim rise fr sm we2 mx cw2 hf m we ep cw : Int) (hm : d.ms = m) (hwe : d.we = we) (hep : d.ep = ep) (hcw : d.cw = cw) (bn : 0 ≤ n ∧ n ≤ 1073741824) (bnow : 0 ≤ now ∧ now ≤ 1125899906842624) (bs : 0 ≤ srtt ∧ srtt ≤ 1125899906842624) (bm : 1 ≤ m ∧ m ≤ 65000) (bc : m ≤ cw ∧ cw ≤ 1073741824) (bw : 0 ≤ we ∧ we ≤ 1073741824) (be : -1 ≤ ep ∧ ep ≤ 1125899906842624) (ht0 : now < ep) (ht : (srtt).tdiv 1000 = t) (hhf : cw.tdiv 2 = hf) (bhf : 0 ≤ hf ∧ hf ≤ 536870912) (bt : 0 ≤ t ∧ t ≤ 1125899906842624) (ba : cw ≤ aim ∧ aim ≤ cw + hf) (br : 0 ≤ rise ∧ rise ≤ 1073741824) (bf : 0 ≤ fr ∧ fr ≤ 1073741824) (hsm : we + fr = sm) (hw2 : (if 1073741824 < sm then 1073741824 else sm) = we2) (bw2 : 0 ≤ we2 ∧ we2 ≤ 1073741824) (ss : Int) (hss : cw + rise = ss) (hmx : (if ss < we2 then we2 else ss) = mx) (hc2 : (if 1073741824 < mx then 1073741824 else mx) = cw2) (c4 : ∀ W, Calls Try.prog 13 #[ccv d, .int .i64 t] W fun e w' => e = .returned (.int .i64 cv) ∧ Below W.heap.size W w') (c5 : ∀ W, Calls Try.prog 39 #[.int .i64 cv, .int .i64 cw, .int .i64 (cw + hf)] W fun e w' => e = .returned (.int .i64 aim) ∧ w' = W) (c6 : ∀ W, Calls Try.prog 41 #[.int .i64 (aim - cw), .int .i64 n, .int .i64 cw] W fun e w' => e = .returned (.int .i64 rise) ∧ ∃ n, w' = W.drewN n) (c7 : ∀ W, Calls Try.prog 41 #[.int .i64 (529 * m), .int .i64 n, .int .i64 (1000 * cw)] W fun e w' => e = .returned (.int .i64 fr) ∧ ∃ n, w' = W.drewN n) (w : World) (hb : Box w g 48 (ccL c)) : Calls Try.prog 27 #[.pointer (some ⟨g, 0, none⟩), .int .i64 n, .int .i64 now, .int .i64 srtt] w fun e w' => e = .returned (.tuple #[]) ∧ Chg w g w' ∧ Box w' g 48 (ccL { d with we := we2, cw := cw2 }) := by
  have HF : Hid (Chg w g w ∧ Box w g 48 (ccL c)) := ⟨Chg.refl w g, hb⟩
  have k1 := Box.cell hb 1 rfl
  have k2 := Box.cell hb 2 rfl
  have k3 := Box.cell hb 3 rfl
  have k4 := Box.cell hb 4 rfl
  have k5 := Box.cell hb 5 rfl
  have k6 := Box.cell hb 6 rfl
  have k7 := Box.cell hb 7 rfl
  have k8 := Box.cell hb 8 rfl
  have k9 := Box.cell hb 9 rfl
  have fz := fun i => Box.frozen hb i
  have hlt := hb.lt
  clear hb
  have HW : Hid (we + fr = sm ∧ (if 1073741824 < sm then 1073741824 else sm) = we2) := ⟨hsm, hw2⟩
  have HX : Hid (cw + rise = ss ∧ (if ss < we2 then we2 else ss) = mx ∧ (if 1073741824 < mx then 1073741824 else mx) = cw2) := ⟨hss, hmx, hc2⟩
  clear hsm hw2 hss hmx hc2
  have HL : Hid (d.ms = m ∧ d.we = we ∧ d.ep = ep ∧ d.cw = cw) := ⟨hm, hwe, hep, hcw⟩
  go_enter Try.func27, Try.ntmps27
  rw [he] at k6
  go_wp2_with fail
  refine (kb _ HF.out.2).mono ?_
  rintro e w1 ⟨rfl, hS, hB⟩
  have HG : Hid (Chg w g w1 ∧ Box w1 g 48 (ccL d)) := ⟨HF.out.1.trans hS, hB⟩
  clear HF hS hB kb k1 k2 k3 k4 k5 k6 k7 k8 k9 fz hlt he
  have HF := HG
  clear HG
  have k1 := Box.cell HF.out.2 1 rfl
  have k2 := Box.cell HF.out.2 2 rfl
  have k6 := Box.cell HF.out.2 6 rfl
  have k8 := Box.cell HF.out.2 8 rfl
  have fz := fun i => Box.frozen HF.out.2 i
  have hlt := HF.out.2.lt
  rw [hm] at k1
  rw [hcw] at k2
  rw [hep] at k6
  rw [hwe] at k8
  clear hm hwe hep hcw
  go_wp2_with (first | (refine wpC_load rfl isC26 rfl rfl HF.out.2 ?_))
  refine (c4 _).mono ?_
  rintro e w2 ⟨rfl, hB⟩
  have HG : Hid (Chg w g w2 ∧ Box w2 g 48 (ccL d)) := ⟨HF.out.1.later HF.out.2.lt hB, HF.out.2.later hB⟩
  clear HF hB c4 k1 k2 k6 k8 fz hlt ht0 ht bt
  have HF := HG
  clear HG
  go_wp2_with fail
  refine (c5 _).mono ?_
  rintro e w' ⟨rfl, hq⟩
  obtain rfl := hq.symm
  clear hq c5 hhf
  go_wp2_with fail
  refine (c6 _).mono ?_
  rintro e w' ⟨rfl, nn, rfl⟩
  clear c6
  go_upto_region 6 with fail
  have hwe2 := HW.out.1
  refine gr6_reg (by rfl) d g n fr sm we2 rfl rfl (by rw [HL.out.2.2.2]; rfl) (HF.out.2.drewN nn) (by rw [HL.out.1, IntKind.wrap_i64]; omega) (by rw [HL.out.2.2.2, IntKind.wrap_i64]; omega) (by rw [HL.out.2.1, IntKind.wrap_i64]; omega) HW.out.2 (by rw [HL.out.1, HL.out.2.2.2]; exact c7) ?_
  intro T w9 hS
  simp only [Act.put, List.setIfInBounds_toArray, List.set_cons_zero, List.set_cons_succ]
  have HG : Hid (Chg w g w9 ∧ Box w9 g 48 (ccL { d with we := we2 })) := ⟨(HF.out.1.drewN nn).trans hS.1, hS.2⟩
  clear hS HF c7 hwe2 HW
  have HF := HG
  clear HG
  have k2 := Box.cell HF.out.2 2 rfl
  have k8 : w9.cell? ⟨g, 8, none⟩ = some (.int .i64 we2) := Box.cell HF.out.2 8 rfl
  have fz := fun i => Box.frozen HF.out.2 i
  have hlt := HF.out.2.lt
  obtain ⟨hss, hmx, hc2⟩ := HX.out
  clear HX HL
  go_wp2_with fail
  go_end0
  refine ⟨rfl, ?hs, ?hx⟩
  case hs => repeat (first | with_reducible exact HF.out.1 | with_reducible refine Chg.set ?_ _ _ | with_reducible refine Chg.drewN ?_ _ | with_reducible refine Chg.drew ?_)
  case hx =>
    apply box_to
    · repeat (first | with_reducible exact HF.out.2 | with_reducible apply Box.set | with_reducible apply Box.drewN | with_reducible apply Box.drew)
    · rfl

set_option maxRecDepth 100000 in
set_option maxHeartbeats 4000000 in
theorem kgro_yg (c : Cc) (g : Nat) (n now srtt : Int) (d : Cc) (he : c.ep = -1) (kb : ∀ W, Box W g 48 (ccL c) → Calls Try.prog 50 #[.pointer (some ⟨g, 0, none⟩), .int .i64 now] W fun e w' => e = .returned (.tuple #[]) ∧ Chg W g w' ∧ Box w' g 48 (ccL d)) (t cv aim rise fr sm we2 mx cw2 hf m we ep cw : Int) (hm : d.ms = m) (hwe : d.we = we) (hep : d.ep = ep) (hcw : d.cw = cw) (bn : 0 ≤ n ∧ n ≤ 1073741824) (bnow : 0 ≤ now ∧ now ≤ 1125899906842624) (bs : 0 ≤ srtt ∧ srtt ≤ 1125899906842624) (bm : 1 ≤ m ∧ m ≤ 65000) (bc : m ≤ cw ∧ cw ≤ 1073741824) (bw : 0 ≤ we ∧ we ≤ 1073741824) (be : -1 ≤ ep ∧ ep ≤ 1125899906842624) (ht0 : ep ≤ now) (ht : (now - ep + srtt).tdiv 1000 = t) (hhf : cw.tdiv 2 = hf) (bhf : 0 ≤ hf ∧ hf ≤ 536870912) (bt : 0 ≤ t ∧ t ≤ 1125899906842624) (ba : cw ≤ aim ∧ aim ≤ cw + hf) (br : 0 ≤ rise ∧ rise ≤ 1073741824) (bf : 0 ≤ fr ∧ fr ≤ 1073741824) (hsm : we + fr = sm) (hw2 : (if 1073741824 < sm then 1073741824 else sm) = we2) (bw2 : 0 ≤ we2 ∧ we2 ≤ 1073741824) (ss : Int) (hss : cw + rise = ss) (hmx : (if ss < we2 then we2 else ss) = mx) (hc2 : (if 1073741824 < mx then 1073741824 else mx) = cw2) (c4 : ∀ W, Calls Try.prog 13 #[ccv d, .int .i64 t] W fun e w' => e = .returned (.int .i64 cv) ∧ Below W.heap.size W w') (c5 : ∀ W, Calls Try.prog 39 #[.int .i64 cv, .int .i64 cw, .int .i64 (cw + hf)] W fun e w' => e = .returned (.int .i64 aim) ∧ w' = W) (c6 : ∀ W, Calls Try.prog 41 #[.int .i64 (aim - cw), .int .i64 n, .int .i64 cw] W fun e w' => e = .returned (.int .i64 rise) ∧ ∃ n, w' = W.drewN n) (c7 : ∀ W, Calls Try.prog 41 #[.int .i64 (529 * m), .int .i64 n, .int .i64 (1000 * cw)] W fun e w' => e = .returned (.int .i64 fr) ∧ ∃ n, w' = W.drewN n) (w : World) (hb : Box w g 48 (ccL c)) : Calls Try.prog 27 #[.pointer (some ⟨g, 0, none⟩), .int .i64 n, .int .i64 now, .int .i64 srtt] w fun e w' => e = .returned (.tuple #[]) ∧ Chg w g w' ∧ Box w' g 48 (ccL { d with we := we2, cw := cw2 }) := by
  have HF : Hid (Chg w g w ∧ Box w g 48 (ccL c)) := ⟨Chg.refl w g, hb⟩
  have k1 := Box.cell hb 1 rfl
  have k2 := Box.cell hb 2 rfl
  have k3 := Box.cell hb 3 rfl
  have k4 := Box.cell hb 4 rfl
  have k5 := Box.cell hb 5 rfl
  have k6 := Box.cell hb 6 rfl
  have k7 := Box.cell hb 7 rfl
  have k8 := Box.cell hb 8 rfl
  have k9 := Box.cell hb 9 rfl
  have fz := fun i => Box.frozen hb i
  have hlt := hb.lt
  clear hb
  have HW : Hid (we + fr = sm ∧ (if 1073741824 < sm then 1073741824 else sm) = we2) := ⟨hsm, hw2⟩
  have HX : Hid (cw + rise = ss ∧ (if ss < we2 then we2 else ss) = mx ∧ (if 1073741824 < mx then 1073741824 else mx) = cw2) := ⟨hss, hmx, hc2⟩
  clear hsm hw2 hss hmx hc2
  have HL : Hid (d.ms = m ∧ d.we = we ∧ d.ep = ep ∧ d.cw = cw) := ⟨hm, hwe, hep, hcw⟩
  go_enter Try.func27, Try.ntmps27
  rw [he] at k6
  go_wp2_with fail
  refine (kb _ HF.out.2).mono ?_
  rintro e w1 ⟨rfl, hS, hB⟩
  have HG : Hid (Chg w g w1 ∧ Box w1 g 48 (ccL d)) := ⟨HF.out.1.trans hS, hB⟩
  clear HF hS hB kb k1 k2 k3 k4 k5 k6 k7 k8 k9 fz hlt he
  have HF := HG
  clear HG
  have k1 := Box.cell HF.out.2 1 rfl
  have k2 := Box.cell HF.out.2 2 rfl
  have k6 := Box.cell HF.out.2 6 rfl
  have k8 := Box.cell HF.out.2 8 rfl
  have fz := fun i => Box.frozen HF.out.2 i
  have hlt := HF.out.2.lt
  rw [hm] at k1
  rw [hcw] at k2
  rw [hep] at k6
  rw [hwe] at k8
  clear hm hwe hep hcw
  go_wp2_with (first | (refine wpC_load rfl isC26 rfl rfl HF.out.2 ?_))
  refine (c4 _).mono ?_
  rintro e w2 ⟨rfl, hB⟩
  have HG : Hid (Chg w g w2 ∧ Box w2 g 48 (ccL d)) := ⟨HF.out.1.later HF.out.2.lt hB, HF.out.2.later hB⟩
  clear HF hB c4 k1 k2 k6 k8 fz hlt ht0 ht bt
  have HF := HG
  clear HG
  go_wp2_with fail
  refine (c5 _).mono ?_
  rintro e w' ⟨rfl, hq⟩
  obtain rfl := hq.symm
  clear hq c5 hhf
  go_wp2_with fail
  refine (c6 _).mono ?_
  rintro e w' ⟨rfl, nn, rfl⟩
  clear c6
  go_upto_region 6 with fail
  have hwe2 := HW.out.1
  refine gr6_reg (by rfl) d g n fr sm we2 rfl rfl (by rw [HL.out.2.2.2]; rfl) (HF.out.2.drewN nn) (by rw [HL.out.1, IntKind.wrap_i64]; omega) (by rw [HL.out.2.2.2, IntKind.wrap_i64]; omega) (by rw [HL.out.2.1, IntKind.wrap_i64]; omega) HW.out.2 (by rw [HL.out.1, HL.out.2.2.2]; exact c7) ?_
  intro T w9 hS
  simp only [Act.put, List.setIfInBounds_toArray, List.set_cons_zero, List.set_cons_succ]
  have HG : Hid (Chg w g w9 ∧ Box w9 g 48 (ccL { d with we := we2 })) := ⟨(HF.out.1.drewN nn).trans hS.1, hS.2⟩
  clear hS HF c7 hwe2 HW
  have HF := HG
  clear HG
  have k2 := Box.cell HF.out.2 2 rfl
  have k8 : w9.cell? ⟨g, 8, none⟩ = some (.int .i64 we2) := Box.cell HF.out.2 8 rfl
  have fz := fun i => Box.frozen HF.out.2 i
  have hlt := HF.out.2.lt
  obtain ⟨hss, hmx, hc2⟩ := HX.out
  clear HX HL
  go_wp2_with fail
  go_end0
  refine ⟨rfl, ?hs, ?hx⟩
  case hs => repeat (first | with_reducible exact HF.out.1 | with_reducible refine Chg.set ?_ _ _ | with_reducible refine Chg.drewN ?_ _ | with_reducible refine Chg.drew ?_)
  case hx =>
    apply box_to
    · repeat (first | with_reducible exact HF.out.2 | with_reducible apply Box.set | with_reducible apply Box.drewN | with_reducible apply Box.drew)
    · rfl

set_option maxRecDepth 100000 in
set_option maxHeartbeats 4000000 in
theorem kgro_nl (c : Cc) (g : Nat) (n now srtt : Int) (he : ¬ c.ep = -1) (t cv aim rise fr sm we2 mx cw2 hf m we ep cw : Int) (hm : c.ms = m) (hwe : c.we = we) (hep : c.ep = ep) (hcw : c.cw = cw) (bn : 0 ≤ n ∧ n ≤ 1073741824) (bnow : 0 ≤ now ∧ now ≤ 1125899906842624) (bs : 0 ≤ srtt ∧ srtt ≤ 1125899906842624) (bm : 1 ≤ m ∧ m ≤ 65000) (bc : m ≤ cw ∧ cw ≤ 1073741824) (bw : 0 ≤ we ∧ we ≤ 1073741824) (be : -1 ≤ ep ∧ ep ≤ 1125899906842624) (ht0 : now < ep) (ht : (srtt).tdiv 1000 = t) (hhf : cw.tdiv 2 = hf) (bhf : 0 ≤ hf ∧ hf ≤ 536870912) (bt : 0 ≤ t ∧ t ≤ 1125899906842624) (ba : cw ≤ aim ∧ aim ≤ cw + hf) (br : 0 ≤ rise ∧ rise ≤ 1073741824) (bf : 0 ≤ fr ∧ fr ≤ 1073741824) (hsm : we + fr = sm) (hw2 : (if 1073741824 < sm then 1073741824 else sm) = we2) (bw2 : 0 ≤ we2 ∧ we2 ≤ 1073741824) (ss : Int) (hss : cw + rise = ss) (hmx : (if ss < we2 then we2 else ss) = mx) (hc2 : (if 1073741824 < mx then 1073741824 else mx) = cw2) (c4 : ∀ W, Calls Try.prog 13 #[ccv c, .int .i64 t] W fun e w' => e = .returned (.int .i64 cv) ∧ Below W.heap.size W w') (c5 : ∀ W, Calls Try.prog 39 #[.int .i64 cv, .int .i64 cw, .int .i64 (cw + hf)] W fun e w' => e = .returned (.int .i64 aim) ∧ w' = W) (c6 : ∀ W, Calls Try.prog 41 #[.int .i64 (aim - cw), .int .i64 n, .int .i64 cw] W fun e w' => e = .returned (.int .i64 rise) ∧ ∃ n, w' = W.drewN n) (c7 : ∀ W, Calls Try.prog 41 #[.int .i64 (529 * m), .int .i64 n, .int .i64 (1000 * cw)] W fun e w' => e = .returned (.int .i64 fr) ∧ ∃ n, w' = W.drewN n) (w : World) (hb : Box w g 48 (ccL c)) : Calls Try.prog 27 #[.pointer (some ⟨g, 0, none⟩), .int .i64 n, .int .i64 now, .int .i64 srtt] w fun e w' => e = .returned (.tuple #[]) ∧ Chg w g w' ∧ Box w' g 48 (ccL { c with we := we2, cw := cw2 }) := by
  have HF : Hid (Chg w g w ∧ Box w g 48 (ccL c)) := ⟨Chg.refl w g, hb⟩
  have k1 := Box.cell hb 1 rfl
  have k2 := Box.cell hb 2 rfl
  have k3 := Box.cell hb 3 rfl
  have k4 := Box.cell hb 4 rfl
  have k5 := Box.cell hb 5 rfl
  have k6 := Box.cell hb 6 rfl
  have k7 := Box.cell hb 7 rfl
  have k8 := Box.cell hb 8 rfl
  have k9 := Box.cell hb 9 rfl
  have fz := fun i => Box.frozen hb i
  have hlt := hb.lt
  clear hb
  have HW : Hid (we + fr = sm ∧ (if 1073741824 < sm then 1073741824 else sm) = we2) := ⟨hsm, hw2⟩
  have HX : Hid (cw + rise = ss ∧ (if ss < we2 then we2 else ss) = mx ∧ (if 1073741824 < mx then 1073741824 else mx) = cw2) := ⟨hss, hmx, hc2⟩
  clear hsm hw2 hss hmx hc2
  have HL : Hid (c.ms = m ∧ c.we = we ∧ c.ep = ep ∧ c.cw = cw) := ⟨hm, hwe, hep, hcw⟩
  go_enter Try.func27, Try.ntmps27
  have hq : (c.ep == -1) = false := beq_eq_false_iff_ne.2 he
  have hq2 : (ep == -1) = false := by rw [← hep]; exact hq
  clear k3 k4 k5 k7 k9 he hq
  rw [hm] at k1
  rw [hcw] at k2
  rw [hep] at k6
  rw [hwe] at k8
  clear hm hwe hep hcw
  go_wp2_with (first | (refine wpC_load rfl isC26 rfl rfl HF.out.2 ?_))
  refine (c4 _).mono ?_
  rintro e w2 ⟨rfl, hB⟩
  have HG : Hid (Chg w g w2 ∧ Box w2 g 48 (ccL c)) := ⟨HF.out.1.later HF.out.2.lt hB, HF.out.2.later hB⟩
  clear HF hB c4 k1 k2 k6 k8 fz hlt ht0 ht bt
  have HF := HG
  clear HG
  go_wp2_with fail
  refine (c5 _).mono ?_
  rintro e w' ⟨rfl, hq⟩
  obtain rfl := hq.symm
  clear hq c5 hhf
  go_wp2_with fail
  refine (c6 _).mono ?_
  rintro e w' ⟨rfl, nn, rfl⟩
  clear c6
  go_upto_region 6 with fail
  have hwe2 := HW.out.1
  refine gr6_reg (by rfl) c g n fr sm we2 rfl rfl (by rw [HL.out.2.2.2]; rfl) (HF.out.2.drewN nn) (by rw [HL.out.1, IntKind.wrap_i64]; omega) (by rw [HL.out.2.2.2, IntKind.wrap_i64]; omega) (by rw [HL.out.2.1, IntKind.wrap_i64]; omega) HW.out.2 (by rw [HL.out.1, HL.out.2.2.2]; exact c7) ?_
  intro T w9 hS
  simp only [Act.put, List.setIfInBounds_toArray, List.set_cons_zero, List.set_cons_succ]
  have HG : Hid (Chg w g w9 ∧ Box w9 g 48 (ccL { c with we := we2 })) := ⟨(HF.out.1.drewN nn).trans hS.1, hS.2⟩
  clear hS HF c7 hwe2 HW
  have HF := HG
  clear HG
  have k2 := Box.cell HF.out.2 2 rfl
  have k8 : w9.cell? ⟨g, 8, none⟩ = some (.int .i64 we2) := Box.cell HF.out.2 8 rfl
  have fz := fun i => Box.frozen HF.out.2 i
  have hlt := HF.out.2.lt
  obtain ⟨hss, hmx, hc2⟩ := HX.out
  clear HX HL
  go_wp2_with fail
  go_end0
  refine ⟨rfl, ?hs, ?hx⟩
  case hs => repeat (first | with_reducible exact HF.out.1 | with_reducible refine Chg.set ?_ _ _ | with_reducible refine Chg.drewN ?_ _ | with_reducible refine Chg.drew ?_)
  case hx =>
    apply box_to
    · repeat (first | with_reducible exact HF.out.2 | with_reducible apply Box.set | with_reducible apply Box.drewN | with_reducible apply Box.drew)
    · rfl

set_option maxRecDepth 100000 in
set_option maxHeartbeats 4000000 in
theorem kgro_ng (c : Cc) (g : Nat) (n now srtt : Int) (he : ¬ c.ep = -1) (t cv aim rise fr sm we2 mx cw2 hf m we ep cw : Int) (hm : c.ms = m) (hwe : c.we = we) (hep : c.ep = ep) (hcw : c.cw = cw) (bn : 0 ≤ n ∧ n ≤ 1073741824) (bnow : 0 ≤ now ∧ now ≤ 1125899906842624) (bs : 0 ≤ srtt ∧ srtt ≤ 1125899906842624) (bm : 1 ≤ m ∧ m ≤ 65000) (bc : m ≤ cw ∧ cw ≤ 1073741824) (bw : 0 ≤ we ∧ we ≤ 1073741824) (be : -1 ≤ ep ∧ ep ≤ 1125899906842624) (ht0 : ep ≤ now) (ht : (now - ep + srtt).tdiv 1000 = t) (hhf : cw.tdiv 2 = hf) (bhf : 0 ≤ hf ∧ hf ≤ 536870912) (bt : 0 ≤ t ∧ t ≤ 1125899906842624) (ba : cw ≤ aim ∧ aim ≤ cw + hf) (br : 0 ≤ rise ∧ rise ≤ 1073741824) (bf : 0 ≤ fr ∧ fr ≤ 1073741824) (hsm : we + fr = sm) (hw2 : (if 1073741824 < sm then 1073741824 else sm) = we2) (bw2 : 0 ≤ we2 ∧ we2 ≤ 1073741824) (ss : Int) (hss : cw + rise = ss) (hmx : (if ss < we2 then we2 else ss) = mx) (hc2 : (if 1073741824 < mx then 1073741824 else mx) = cw2) (c4 : ∀ W, Calls Try.prog 13 #[ccv c, .int .i64 t] W fun e w' => e = .returned (.int .i64 cv) ∧ Below W.heap.size W w') (c5 : ∀ W, Calls Try.prog 39 #[.int .i64 cv, .int .i64 cw, .int .i64 (cw + hf)] W fun e w' => e = .returned (.int .i64 aim) ∧ w' = W) (c6 : ∀ W, Calls Try.prog 41 #[.int .i64 (aim - cw), .int .i64 n, .int .i64 cw] W fun e w' => e = .returned (.int .i64 rise) ∧ ∃ n, w' = W.drewN n) (c7 : ∀ W, Calls Try.prog 41 #[.int .i64 (529 * m), .int .i64 n, .int .i64 (1000 * cw)] W fun e w' => e = .returned (.int .i64 fr) ∧ ∃ n, w' = W.drewN n) (w : World) (hb : Box w g 48 (ccL c)) : Calls Try.prog 27 #[.pointer (some ⟨g, 0, none⟩), .int .i64 n, .int .i64 now, .int .i64 srtt] w fun e w' => e = .returned (.tuple #[]) ∧ Chg w g w' ∧ Box w' g 48 (ccL { c with we := we2, cw := cw2 }) := by
  have HF : Hid (Chg w g w ∧ Box w g 48 (ccL c)) := ⟨Chg.refl w g, hb⟩
  have k1 := Box.cell hb 1 rfl
  have k2 := Box.cell hb 2 rfl
  have k3 := Box.cell hb 3 rfl
  have k4 := Box.cell hb 4 rfl
  have k5 := Box.cell hb 5 rfl
  have k6 := Box.cell hb 6 rfl
  have k7 := Box.cell hb 7 rfl
  have k8 := Box.cell hb 8 rfl
  have k9 := Box.cell hb 9 rfl
  have fz := fun i => Box.frozen hb i
  have hlt := hb.lt
  clear hb
  have HW : Hid (we + fr = sm ∧ (if 1073741824 < sm then 1073741824 else sm) = we2) := ⟨hsm, hw2⟩
  have HX : Hid (cw + rise = ss ∧ (if ss < we2 then we2 else ss) = mx ∧ (if 1073741824 < mx then 1073741824 else mx) = cw2) := ⟨hss, hmx, hc2⟩
  clear hsm hw2 hss hmx hc2
  have HL : Hid (c.ms = m ∧ c.we = we ∧ c.ep = ep ∧ c.cw = cw) := ⟨hm, hwe, hep, hcw⟩
  go_enter Try.func27, Try.ntmps27
  have hq : (c.ep == -1) = false := beq_eq_false_iff_ne.2 he
  have hq2 : (ep == -1) = false := by rw [← hep]; exact hq
  clear k3 k4 k5 k7 k9 he hq
  rw [hm] at k1
  rw [hcw] at k2
  rw [hep] at k6
  rw [hwe] at k8
  clear hm hwe hep hcw
  go_wp2_with (first | (refine wpC_load rfl isC26 rfl rfl HF.out.2 ?_))
  refine (c4 _).mono ?_
  rintro e w2 ⟨rfl, hB⟩
  have HG : Hid (Chg w g w2 ∧ Box w2 g 48 (ccL c)) := ⟨HF.out.1.later HF.out.2.lt hB, HF.out.2.later hB⟩
  clear HF hB c4 k1 k2 k6 k8 fz hlt ht0 ht bt
  have HF := HG
  clear HG
  go_wp2_with fail
  refine (c5 _).mono ?_
  rintro e w' ⟨rfl, hq⟩
  obtain rfl := hq.symm
  clear hq c5 hhf
  go_wp2_with fail
  refine (c6 _).mono ?_
  rintro e w' ⟨rfl, nn, rfl⟩
  clear c6
  go_upto_region 6 with fail
  have hwe2 := HW.out.1
  refine gr6_reg (by rfl) c g n fr sm we2 rfl rfl (by rw [HL.out.2.2.2]; rfl) (HF.out.2.drewN nn) (by rw [HL.out.1, IntKind.wrap_i64]; omega) (by rw [HL.out.2.2.2, IntKind.wrap_i64]; omega) (by rw [HL.out.2.1, IntKind.wrap_i64]; omega) HW.out.2 (by rw [HL.out.1, HL.out.2.2.2]; exact c7) ?_
  intro T w9 hS
  simp only [Act.put, List.setIfInBounds_toArray, List.set_cons_zero, List.set_cons_succ]
  have HG : Hid (Chg w g w9 ∧ Box w9 g 48 (ccL { c with we := we2 })) := ⟨(HF.out.1.drewN nn).trans hS.1, hS.2⟩
  clear hS HF c7 hwe2 HW
  have HF := HG
  clear HG
  have k2 := Box.cell HF.out.2 2 rfl
  have k8 : w9.cell? ⟨g, 8, none⟩ = some (.int .i64 we2) := Box.cell HF.out.2 8 rfl
  have fz := fun i => Box.frozen HF.out.2 i
  have hlt := HF.out.2.lt
  obtain ⟨hss, hmx, hc2⟩ := HX.out
  clear HX HL
  go_wp2_with fail
  go_end0
  refine ⟨rfl, ?hs, ?hx⟩
  case hs => repeat (first | with_reducible exact HF.out.1 | with_reducible refine Chg.set ?_ _ _ | with_reducible refine Chg.drewN ?_ _ | with_reducible refine Chg.drew ?_)
  case hx =>
    apply box_to
    · repeat (first | with_reducible exact HF.out.2 | with_reducible apply Box.set | with_reducible apply Box.drewN | with_reducible apply Box.drew)
    · rfl
end Go.Proofs.Ytikcjdoeoghoeaa
