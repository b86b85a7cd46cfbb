/- The contract of Reorder. -/
import Derived.Test.YtfkkpianlmpknaaMul
namespace Go.Proofs.Ytfkkpianlmpknaa
open Go.ChangeShapes Go.WideShapes Go.ChangeAt Go.RowKit Go.Shelf
set_option linter.unusedVariables false
set_option linter.unusedSimpArgs false
attribute [local go_sem] Oper.semAt_some

set_option maxRecDepth 100000 in
set_option maxHeartbeats 4000000 in
theorem order_no (ks ke kr : Int) (kn : Bool) (kf km ko kl : Int) (low srtt : Int) (calm : Bool) (sacked : Int) (w : World) (k : okK ⟨ks, ke, kr, kn, kf, km, ko, kl⟩ = false) : Calls Try.prog 16 #[.agg #[.int .i64 ks, .int .i64 ke, .int .i64 kr, .bool kn, .int .i64 kf, .int .i64 km, .int .i64 ko, .int .i64 kl], .int .i64 low, .int .i64 srtt, .bool calm, .int .i64 sacked] w fun e w' => e = .returned (.tuple #[.int .i64 0, .int .i64 230]) ∧ Below w.heap.size w w' := by
  have c1 : ∀ W, Calls Try.prog 11 #[.agg #[.int .i64 ks, .int .i64 ke, .int .i64 kr, .bool kn, .int .i64 kf, .int .i64 km, .int .i64 ko, .int .i64 kl]] W fun e w' => e = .returned (.int .i64 230) ∧ Below W.heap.size W w' := fun W => chk_no ks ke kr kn kf km ko kl k W
  clear k
  have HX : Hid (BoxK (w.alloc (.cells #[.int .i64 ks, .int .i64 ke, .int .i64 kr, .bool kn, .int .i64 kf, .int .i64 km, .int .i64 ko, .int .i64 kl] 23)) w.heap.size (.int .i64 ks) (.int .i64 ke) (.int .i64 kr) (.bool kn) (.int .i64 kf) (.int .i64 km) (.int .i64 ko) (.int .i64 kl) ∧ Below w.heap.size w (w.alloc (.cells #[.int .i64 ks, .int .i64 ke, .int .i64 kr, .bool kn, .int .i64 kf, .int .i64 km, .int .i64 ko, .int .i64 kl] 23))) := ⟨BoxK.new w _ _ _ _ _ _ _ _, below_more (Below.refl _ _) _⟩
  go_enter Try.func16, Try.ntmps16
  go_wp2_with fail
  refine (c1 _).mono ?_
  rintro e w1 ⟨rfl, hB1⟩
  have HX1 : Hid (BoxK w1 w.heap.size (.int .i64 ks) (.int .i64 ke) (.int .i64 kr) (.bool kn) (.int .i64 kf) (.int .i64 km) (.int .i64 ko) (.int .i64 kl) ∧ Below w.heap.size w w1) := ⟨HX.out.1.later hB1, Below.on HX.out.2 hB1⟩
  clear HX hB1 c1
  obtain ⟨k0, k1, k2, k3, k4, k5, k6, k7⟩ := HX1.out.1.cells
  have hlt1 := HX1.out.1.lt
  go_wp2_with fail
  go_ret2
  exact ⟨rfl, HX1.out.2⟩

set_option maxRecDepth 100000 in
set_option maxHeartbeats 4000000 in
theorem order_low (ks ke kr : Int) (kn : Bool) (kf km ko kl : Int) (low srtt : Int) (calm : Bool) (sacked : Int) (w : World) (k : okK ⟨ks, ke, kr, kn, kf, km, ko, kl⟩ = true) (q1 : tmB low = false) : Calls Try.prog 16 #[.agg #[.int .i64 ks, .int .i64 ke, .int .i64 kr, .bool kn, .int .i64 kf, .int .i64 km, .int .i64 ko, .int .i64 kl], .int .i64 low, .int .i64 srtt, .bool calm, .int .i64 sacked] w fun e w' => e = .returned (.tuple #[.int .i64 0, .int .i64 2]) ∧ Below w.heap.size w w' := by
  have c1 : ∀ W, Calls Try.prog 11 #[.agg #[.int .i64 ks, .int .i64 ke, .int .i64 kr, .bool kn, .int .i64 kf, .int .i64 km, .int .i64 ko, .int .i64 kl]] W fun e w' => e = .returned (.int .i64 0) ∧ Below W.heap.size W w' := fun W => chk_yes ks ke kr kn kf km ko kl k W
  have c2 := isTime_is low false q1
  clear k q1
  have HX : Hid (BoxK (w.alloc (.cells #[.int .i64 ks, .int .i64 ke, .int .i64 kr, .bool kn, .int .i64 kf, .int .i64 km, .int .i64 ko, .int .i64 kl] 23)) w.heap.size (.int .i64 ks) (.int .i64 ke) (.int .i64 kr) (.bool kn) (.int .i64 kf) (.int .i64 km) (.int .i64 ko) (.int .i64 kl) ∧ Below w.heap.size w (w.alloc (.cells #[.int .i64 ks, .int .i64 ke, .int .i64 kr, .bool kn, .int .i64 kf, .int .i64 km, .int .i64 ko, .int .i64 kl] 23))) := ⟨BoxK.new w _ _ _ _ _ _ _ _, below_more (Below.refl _ _) _⟩
  go_enter Try.func16, Try.ntmps16
  go_wp2_with fail
  refine (c1 _).mono ?_
  rintro e w1 ⟨rfl, hB1⟩
  have HX1 : Hid (BoxK w1 w.heap.size (.int .i64 ks) (.int .i64 ke) (.int .i64 kr) (.bool kn) (.int .i64 kf) (.int .i64 km) (.int .i64 ko) (.int .i64 kl) ∧ Below w.heap.size w w1) := ⟨HX.out.1.later hB1, Below.on HX.out.2 hB1⟩
  clear HX hB1 c1
  obtain ⟨k0, k1, k2, k3, k4, k5, k6, k7⟩ := HX1.out.1.cells
  have hlt1 := HX1.out.1.lt
  go_wp2_with fail
  refine (c2 _).mono ?_
  rintro e w' ⟨rfl, rfl⟩
  go_wp2_with fail
  go_ret2
  exact ⟨rfl, HX1.out.2⟩

set_option maxRecDepth 100000 in
set_option maxHeartbeats 4000000 in
theorem order_srtt (ks ke kr : Int) (kn : Bool) (kf km ko kl : Int) (low srtt : Int) (calm : Bool) (sacked : Int) (w : World) (k : okK ⟨ks, ke, kr, kn, kf, km, ko, kl⟩ = true) (q1 : tmB low = true) (q2 : tmB srtt = false) : Calls Try.prog 16 #[.agg #[.int .i64 ks, .int .i64 ke, .int .i64 kr, .bool kn, .int .i64 kf, .int .i64 km, .int .i64 ko, .int .i64 kl], .int .i64 low, .int .i64 srtt, .bool calm, .int .i64 sacked] w fun e w' => e = .returned (.tuple #[.int .i64 0, .int .i64 2]) ∧ Below w.heap.size w w' := by
  have c1 : ∀ W, Calls Try.prog 11 #[.agg #[.int .i64 ks, .int .i64 ke, .int .i64 kr, .bool kn, .int .i64 kf, .int .i64 km, .int .i64 ko, .int .i64 kl]] W fun e w' => e = .returned (.int .i64 0) ∧ Below W.heap.size W w' := fun W => chk_yes ks ke kr kn kf km ko kl k W
  have c2 := isTime_is low true q1
  have c3 := isTime_is srtt false q2
  clear k q1 q2
  have HX : Hid (BoxK (w.alloc (.cells #[.int .i64 ks, .int .i64 ke, .int .i64 kr, .bool kn, .int .i64 kf, .int .i64 km, .int .i64 ko, .int .i64 kl] 23)) w.heap.size (.int .i64 ks) (.int .i64 ke) (.int .i64 kr) (.bool kn) (.int .i64 kf) (.int .i64 km) (.int .i64 ko) (.int .i64 kl) ∧ Below w.heap.size w (w.alloc (.cells #[.int .i64 ks, .int .i64 ke, .int .i64 kr, .bool kn, .int .i64 kf, .int .i64 km, .int .i64 ko, .int .i64 kl] 23))) := ⟨BoxK.new w _ _ _ _ _ _ _ _, below_more (Below.refl _ _) _⟩
  go_enter Try.func16, Try.ntmps16
  go_wp2_with fail
  refine (c1 _).mono ?_
  rintro e w1 ⟨rfl, hB1⟩
  have HX1 : Hid (BoxK w1 w.heap.size (.int .i64 ks) (.int .i64 ke) (.int .i64 kr) (.bool kn) (.int .i64 kf) (.int .i64 km) (.int .i64 ko) (.int .i64 kl) ∧ Below w.heap.size w w1) := ⟨HX.out.1.later hB1, Below.on HX.out.2 hB1⟩
  clear HX hB1 c1
  obtain ⟨k0, k1, k2, k3, k4, k5, k6, k7⟩ := HX1.out.1.cells
  have hlt1 := HX1.out.1.lt
  go_wp2_with fail
  refine (c2 _).mono ?_
  rintro e w' ⟨rfl, rfl⟩
  go_wp2_with fail
  refine (c3 _).mono ?_
  rintro e w' ⟨rfl, rfl⟩
  go_wp2_with fail
  go_ret2
  exact ⟨rfl, HX1.out.2⟩

set_option maxRecDepth 100000 in
set_option maxHeartbeats 4000000 in
theorem order_rush (ks ke kr : Int) (kf km ko kl : Int) (low srtt : Int)  (sacked : Int) (w : World) (k : okK ⟨ks, ke, kr, false, kf, km, ko, kl⟩ = true) (q1 : tmB low = true) (q2 : tmB srtt = true) : Calls Try.prog 16 #[.agg #[.int .i64 ks, .int .i64 ke, .int .i64 kr, .bool false, .int .i64 kf, .int .i64 km, .int .i64 ko, .int .i64 kl], .int .i64 low, .int .i64 srtt, .bool false, .int .i64 sacked] w fun e w' => e = .returned (.tuple #[.int .i64 0, .int .i64 0]) ∧ Below w.heap.size w w' := by
  have c1 : ∀ W, Calls Try.prog 11 #[.agg #[.int .i64 ks, .int .i64 ke, .int .i64 kr, .bool false, .int .i64 kf, .int .i64 km, .int .i64 ko, .int .i64 kl]] W fun e w' => e = .returned (.int .i64 0) ∧ Below W.heap.size W w' := fun W => chk_yes ks ke kr false kf km ko kl k W
  have c2 := isTime_is low true q1
  have c3 := isTime_is srtt true q2
  clear k q1 q2
  have HX : Hid (BoxK (w.alloc (.cells #[.int .i64 ks, .int .i64 ke, .int .i64 kr, .bool false, .int .i64 kf, .int .i64 km, .int .i64 ko, .int .i64 kl] 23)) w.heap.size (.int .i64 ks) (.int .i64 ke) (.int .i64 kr) (.bool false) (.int .i64 kf) (.int .i64 km) (.int .i64 ko) (.int .i64 kl) ∧ Below w.heap.size w (w.alloc (.cells #[.int .i64 ks, .int .i64 ke, .int .i64 kr, .bool false, .int .i64 kf, .int .i64 km, .int .i64 ko, .int .i64 kl] 23))) := ⟨BoxK.new w _ _ _ _ _ _ _ _, below_more (Below.refl _ _) _⟩
  go_enter Try.func16, Try.ntmps16
  go_wp2_with fail
  refine (c1 _).mono ?_
  rintro e w1 ⟨rfl, hB1⟩
  have HX1 : Hid (BoxK w1 w.heap.size (.int .i64 ks) (.int .i64 ke) (.int .i64 kr) (.bool false) (.int .i64 kf) (.int .i64 km) (.int .i64 ko) (.int .i64 kl) ∧ Below w.heap.size w w1) := ⟨HX.out.1.later hB1, Below.on HX.out.2 hB1⟩
  clear HX hB1 c1
  obtain ⟨k0, k1, k2, k3, k4, k5, k6, k7⟩ := HX1.out.1.cells
  have hlt1 := HX1.out.1.lt
  go_wp2_with fail
  refine (c2 _).mono ?_
  rintro e w' ⟨rfl, rfl⟩
  go_wp2_with fail
  refine (c3 _).mono ?_
  rintro e w' ⟨rfl, rfl⟩
  go_wp2_with fail
  go_ret2
  exact ⟨rfl, HX1.out.2⟩

set_option maxRecDepth 100000 in
set_option maxHeartbeats 4000000 in
theorem order_many (ks ke kr : Int) (kf km ko kl : Int) (low srtt : Int)  (sacked : Int) (w : World) (k : okK ⟨ks, ke, kr, false, kf, km, ko, kl⟩ = true) (q1 : tmB low = true) (q2 : tmB srtt = true) (u : 3 ≤ sacked) : Calls Try.prog 16 #[.agg #[.int .i64 ks, .int .i64 ke, .int .i64 kr, .bool false, .int .i64 kf, .int .i64 km, .int .i64 ko, .int .i64 kl], .int .i64 low, .int .i64 srtt, .bool true, .int .i64 sacked] w fun e w' => e = .returned (.tuple #[.int .i64 0, .int .i64 0]) ∧ Below w.heap.size w w' := by
  have c1 : ∀ W, Calls Try.prog 11 #[.agg #[.int .i64 ks, .int .i64 ke, .int .i64 kr, .bool false, .int .i64 kf, .int .i64 km, .int .i64 ko, .int .i64 kl]] W fun e w' => e = .returned (.int .i64 0) ∧ Below W.heap.size W w' := fun W => chk_yes ks ke kr false kf km ko kl k W
  have c2 := isTime_is low true q1
  have c3 := isTime_is srtt true q2
  have d1 : decide (3 ≤ sacked) = true := by simp; omega
  clear k q1 q2 u
  have HX : Hid (BoxK (w.alloc (.cells #[.int .i64 ks, .int .i64 ke, .int .i64 kr, .bool false, .int .i64 kf, .int .i64 km, .int .i64 ko, .int .i64 kl] 23)) w.heap.size (.int .i64 ks) (.int .i64 ke) (.int .i64 kr) (.bool false) (.int .i64 kf) (.int .i64 km) (.int .i64 ko) (.int .i64 kl) ∧ Below w.heap.size w (w.alloc (.cells #[.int .i64 ks, .int .i64 ke, .int .i64 kr, .bool false, .int .i64 kf, .int .i64 km, .int .i64 ko, .int .i64 kl] 23))) := ⟨BoxK.new w _ _ _ _ _ _ _ _, below_more (Below.refl _ _) _⟩
  go_enter Try.func16, Try.ntmps16
  go_wp2_with fail
  refine (c1 _).mono ?_
  rintro e w1 ⟨rfl, hB1⟩
  have HX1 : Hid (BoxK w1 w.heap.size (.int .i64 ks) (.int .i64 ke) (.int .i64 kr) (.bool false) (.int .i64 kf) (.int .i64 km) (.int .i64 ko) (.int .i64 kl) ∧ Below w.heap.size w w1) := ⟨HX.out.1.later hB1, Below.on HX.out.2 hB1⟩
  clear HX hB1 c1
  obtain ⟨k0, k1, k2, k3, k4, k5, k6, k7⟩ := HX1.out.1.cells
  have hlt1 := HX1.out.1.lt
  go_wp2_with fail
  refine (c2 _).mono ?_
  rintro e w' ⟨rfl, rfl⟩
  go_wp2_with fail
  refine (c3 _).mono ?_
  rintro e w' ⟨rfl, rfl⟩
  go_wp2_with fail
  go_ret2
  exact ⟨rfl, HX1.out.2⟩

set_option maxRecDepth 100000 in
set_option maxHeartbeats 4000000 in
theorem order_few (ks ke kr : Int) (kf km ko kl : Int) (low srtt : Int)  (sacked : Int) (w : World) (k : okK ⟨ks, ke, kr, false, kf, km, ko, kl⟩ = true) (q1 : tmB low = true) (q2 : tmB srtt = true) (u : sacked < 3) (m : Int) (hm : min (km * low / 4) srtt = m) : Calls Try.prog 16 #[.agg #[.int .i64 ks, .int .i64 ke, .int .i64 kr, .bool false, .int .i64 kf, .int .i64 km, .int .i64 ko, .int .i64 kl], .int .i64 low, .int .i64 srtt, .bool true, .int .i64 sacked] w fun e w' => e = .returned (.tuple #[.int .i64 m, .int .i64 0]) ∧ Below w.heap.size w w' := by
  have c1 : ∀ W, Calls Try.prog 11 #[.agg #[.int .i64 ks, .int .i64 ke, .int .i64 kr, .bool false, .int .i64 kf, .int .i64 km, .int .i64 ko, .int .i64 kl]] W fun e w' => e = .returned (.int .i64 0) ∧ Below W.heap.size W w' := fun W => chk_yes ks ke kr false kf km ko kl k W
  have c2 := isTime_is low true q1
  have c3 := isTime_is srtt true q2
  have hn := ok_nums k
  have ht := tm_out q1
  simp only at hn
  have w0 : 1 ≤ km ∧ km ≤ 255 ∧ 0 ≤ low ∧ low ≤ 1125899906842624 := by omega
  have hp : 0 ≤ km * low := Int.mul_nonneg (by omega) (by omega)
  have hp2 : km * low ≤ 255 * 1125899906842624 := Int.mul_le_mul (by omega) (by omega) (by omega) (by omega)
  obtain ⟨qq, hq⟩ : ∃ qq, km * low / 4 = qq := ⟨_, rfl⟩
  have c4 := mulDiv4_is km low (by omega) (by omega) qq hq
  rw [hq] at hm
  have hmx := @min2 qq srtt m hm
  clear k q1 q2 hm hn ht hq hp hp2
  have d1 : decide (3 ≤ sacked) = false := by simp; omega
  clear u
  have HX : Hid (BoxK (w.alloc (.cells #[.int .i64 ks, .int .i64 ke, .int .i64 kr, .bool false, .int .i64 kf, .int .i64 km, .int .i64 ko, .int .i64 kl] 23)) w.heap.size (.int .i64 ks) (.int .i64 ke) (.int .i64 kr) (.bool false) (.int .i64 kf) (.int .i64 km) (.int .i64 ko) (.int .i64 kl) ∧ Below w.heap.size w (w.alloc (.cells #[.int .i64 ks, .int .i64 ke, .int .i64 kr, .bool false, .int .i64 kf, .int .i64 km, .int .i64 ko, .int .i64 kl] 23))) := ⟨BoxK.new w _ _ _ _ _ _ _ _, below_more (Below.refl _ _) _⟩
  go_enter Try.func16, Try.ntmps16
  go_wp2_with fail
  refine (c1 _).mono ?_
  rintro e w1 ⟨rfl, hB1⟩
  have HX1 : Hid (BoxK w1 w.heap.size (.int .i64 ks) (.int .i64 ke) (.int .i64 kr) (.bool false) (.int .i64 kf) (.int .i64 km) (.int .i64 ko) (.int .i64 kl) ∧ Below w.heap.size w w1) := ⟨HX.out.1.later hB1, Below.on HX.out.2 hB1⟩
  clear HX hB1 c1
  obtain ⟨k0, k1, k2, k3, k4, k5, k6, k7⟩ := HX1.out.1.cells
  have hlt1 := HX1.out.1.lt
  go_wp2_with fail
  refine (c2 _).mono ?_
  rintro e w' ⟨rfl, rfl⟩
  go_wp2_with fail
  refine (c3 _).mono ?_
  rintro e w' ⟨rfl, rfl⟩
  go_wp2_with fail
  refine (c4 _).mono ?_
  rintro e w2 ⟨rfl, hB2⟩
  go_wp2_with fail
  go_ret2
  exact ⟨rfl, Below.on HX1.out.2 hB2⟩

set_option maxRecDepth 100000 in
set_option maxHeartbeats 4000000 in
theorem order_seen (ks ke kr : Int) (kf km ko kl : Int) (low srtt : Int) (calm : Bool) (sacked : Int) (w : World) (k : okK ⟨ks, ke, kr, true, kf, km, ko, kl⟩ = true) (q1 : tmB low = true) (q2 : tmB srtt = true) (m : Int) (hm : min (km * low / 4) srtt = m) : Calls Try.prog 16 #[.agg #[.int .i64 ks, .int .i64 ke, .int .i64 kr, .bool true, .int .i64 kf, .int .i64 km, .int .i64 ko, .int .i64 kl], .int .i64 low, .int .i64 srtt, .bool calm, .int .i64 sacked] w fun e w' => e = .returned (.tuple #[.int .i64 m, .int .i64 0]) ∧ Below w.heap.size w w' := by
  have c1 : ∀ W, Calls Try.prog 11 #[.agg #[.int .i64 ks, .int .i64 ke, .int .i64 kr, .bool true, .int .i64 kf, .int .i64 km, .int .i64 ko, .int .i64 kl]] W fun e w' => e = .returned (.int .i64 0) ∧ Below W.heap.size W w' := fun W => chk_yes ks ke kr true kf km ko kl k W
  have c2 := isTime_is low true q1
  have c3 := isTime_is srtt true q2
  have hn := ok_nums k
  have ht := tm_out q1
  simp only at hn
  have w0 : 1 ≤ km ∧ km ≤ 255 ∧ 0 ≤ low ∧ low ≤ 1125899906842624 := by omega
  have hp : 0 ≤ km * low := Int.mul_nonneg (by omega) (by omega)
  have hp2 : km * low ≤ 255 * 1125899906842624 := Int.mul_le_mul (by omega) (by omega) (by omega) (by omega)
  obtain ⟨qq, hq⟩ : ∃ qq, km * low / 4 = qq := ⟨_, rfl⟩
  have c4 := mulDiv4_is km low (by omega) (by omega) qq hq
  rw [hq] at hm
  have hmx := @min2 qq srtt m hm
  clear k q1 q2 hm hn ht hq hp hp2
  have HX : Hid (BoxK (w.alloc (.cells #[.int .i64 ks, .int .i64 ke, .int .i64 kr, .bool true, .int .i64 kf, .int .i64 km, .int .i64 ko, .int .i64 kl] 23)) w.heap.size (.int .i64 ks) (.int .i64 ke) (.int .i64 kr) (.bool true) (.int .i64 kf) (.int .i64 km) (.int .i64 ko) (.int .i64 kl) ∧ Below w.heap.size w (w.alloc (.cells #[.int .i64 ks, .int .i64 ke, .int .i64 kr, .bool true, .int .i64 kf, .int .i64 km, .int .i64 ko, .int .i64 kl] 23))) := ⟨BoxK.new w _ _ _ _ _ _ _ _, below_more (Below.refl _ _) _⟩
  go_enter Try.func16, Try.ntmps16
  go_wp2_with fail
  refine (c1 _).mono ?_
  rintro e w1 ⟨rfl, hB1⟩
  have HX1 : Hid (BoxK w1 w.heap.size (.int .i64 ks) (.int .i64 ke) (.int .i64 kr) (.bool true) (.int .i64 kf) (.int .i64 km) (.int .i64 ko) (.int .i64 kl) ∧ Below w.heap.size w w1) := ⟨HX.out.1.later hB1, Below.on HX.out.2 hB1⟩
  clear HX hB1 c1
  obtain ⟨k0, k1, k2, k3, k4, k5, k6, k7⟩ := HX1.out.1.cells
  have hlt1 := HX1.out.1.lt
  go_wp2_with fail
  refine (c2 _).mono ?_
  rintro e w' ⟨rfl, rfl⟩
  go_wp2_with fail
  refine (c3 _).mono ?_
  rintro e w' ⟨rfl, rfl⟩
  go_wp2_with fail
  refine (c4 _).mono ?_
  rintro e w2 ⟨rfl, hB2⟩
  go_wp2_with fail
  go_ret2
  exact ⟨rfl, Below.on HX1.out.2 hB2⟩

theorem order_is (ks ke kr : Int) (kn : Bool) (kf km ko kl : Int) (low srtt : Int) (calm : Bool) (sacked : Int) (w : World) (a : Int) (ha : ordI ⟨ks, ke, kr, kn, kf, km, ko, kl⟩ low srtt calm sacked = a) (r : Int) (hr : ordE ⟨ks, ke, kr, kn, kf, km, ko, kl⟩ low srtt = r) : Calls Try.prog 16 #[.agg #[.int .i64 ks, .int .i64 ke, .int .i64 kr, .bool kn, .int .i64 kf, .int .i64 km, .int .i64 ko, .int .i64 kl], .int .i64 low, .int .i64 srtt, .bool calm, .int .i64 sacked] w fun e w' => e = .returned (.tuple #[.int .i64 a, .int .i64 r]) ∧ Below w.heap.size w w' := by
  unfold ordI at ha
  unfold ordE at hr
  cases k : okK ⟨ks, ke, kr, kn, kf, km, ko, kl⟩ with
  | false => rw [if_neg (by simp [k])] at ha hr; subst ha; subst hr; exact order_no ks ke kr kn kf km ko kl low srtt calm sacked w k
  | true =>
    rw [if_pos k] at ha hr
    cases q1 : tmB low with
    | false => rw [q1] at ha hr; subst ha; subst hr; exact order_low ks ke kr kn kf km ko kl low srtt calm sacked w k q1
    | true =>
    cases q2 : tmB srtt with
    | false => rw [q1, q2] at ha hr; subst ha; subst hr; exact order_srtt ks ke kr kn kf km ko kl low srtt calm sacked w k q1 q2
    | true =>
    rw [q1, q2] at ha hr
    have hr0 : 0 = r := hr
    subst hr0
    have ha : (if (!kn && (!calm || decide (3 ≤ sacked))) = true then 0 else min (km * low / 4) srtt) = a := ha
    cases kn with
    | true => exact order_seen ks ke kr kf km ko kl low srtt calm sacked w k q1 q2 a ha
    | false =>
    cases calm with
    | false => have ha0 : 0 = a := ha; subst ha0; exact order_rush ks ke kr kf km ko kl low srtt sacked w k q1 q2
    | true =>
    by_cases u : 3 ≤ sacked
    · rw [if_pos (by simpa using u)] at ha; subst ha; exact order_many ks ke kr kf km ko kl low srtt sacked w k q1 q2 u
    · rw [if_neg (by simpa using u)] at ha; exact order_few ks ke kr kf km ko kl low srtt sacked w k q1 q2 (by omega) a ha
end Go.Proofs.Ytfkkpianlmpknaa
