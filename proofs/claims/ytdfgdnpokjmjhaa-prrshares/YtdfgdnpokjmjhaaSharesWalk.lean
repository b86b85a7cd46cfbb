/- The walk of PrrShares. -/
import Derived.Test.YtdfgdnpokjmjhaaOpen
import Derived.Test.YtdfgdnpokjmjhaaPlain2
namespace Go.Proofs.Ytdfgdnpokjmjhaa
open Go.ChangeShapes Go.WideShapes Go.ChangeAt Go.RowKit
set_option linter.unusedVariables false


theorem may_up {g o f n s m : Int} {b : Bool} : mayI g o f n (s + 1) s m b = if o = 0 then max (max (upI g s f - o) m) 0 else max (upI g s f - o) 0 := by
  unfold mayI rawI; rw [if_pos (show s < s + 1 by omega)]
/-- One round: what goes out stays within the share, or a segment. -/
theorem share_step {G O e s fl m : Int} (hf : 1 ≤ fl) (hs : 0 ≤ s ∧ s ≤ fl) (hm : 1 ≤ m ∧ m ≤ 10000) (hG : 0 ≤ G ∧ G + e ≤ 1000000 ∧ 0 ≤ e) (hO : 0 ≤ O) (hI : O ≤ max m ((G * s + fl - 1) / fl)) :
    0 ≤ mayI (G + e) O fl e (s + 1) s m true ∧ O + mayI (G + e) O fl e (s + 1) s m true ≤ max m (((G + e) * s + fl - 1) / fl) ∧ ((G + e) * s + fl - 1) / fl ≤ 1000000 := by
  have h1 := up_le (a := G + e) (b := s) (c := fl) (by omega) hs.1 hf hs.2
  have h2 := up_ceil (a := G + e) (b := s) (c := fl) hf
  have h3 : (G * s + fl - 1) / fl ≤ ((G + e) * s + fl - 1) / fl := by
    have : G * s ≤ (G + e) * s := Int.mul_le_mul_of_nonneg_right (by omega) hs.1
    exact Int.ediv_le_ediv (by omega) (by omega)
  rw [may_up]
  generalize (G * s + fl - 1) / fl = t1 at *
  generalize ((G + e) * s + fl - 1) / fl = t2 at *
  generalize upI (G + e) s fl = U at *
  by_cases h0 : O = 0
  · rw [if_pos h0]; omega
  · rw [if_neg h0]; omega

set_option maxRecDepth 100000 in
set_option maxHeartbeats 4000000 in
theorem shr_0 (fl s m : Int) (A : Option Addr) (n cp : Nat) (w : World) (hq : fl < 1) : Calls Try.prog 6 #[.int .i64 fl, .int .i64 s, .int .i64 m, .slice A n cp] w fun e w' => e = .returned (.bool true) ∧ Below w.heap.size w w' := by
  have kh := heads_any
  go_enter Try.func6, Try.ntmps6
  go_wp2_with fail
  refine (kh _).mono ?_
  rintro e wz ⟨rfl, hBz⟩
  go_wp2_with fail
  go_ret
  exact ⟨rfl, Below.on (Below.refl _ _) hBz⟩

set_option maxRecDepth 100000 in
set_option maxHeartbeats 4000000 in
theorem shr_1 (fl s m : Int) (A : Option Addr) (n cp : Nat) (w : World) (hq : 1 ≤ fl ∧ 1048576 < fl) : Calls Try.prog 6 #[.int .i64 fl, .int .i64 s, .int .i64 m, .slice A n cp] w fun e w' => e = .returned (.bool true) ∧ Below w.heap.size w w' := by
  have kh := heads_any
  go_enter Try.func6, Try.ntmps6
  go_wp2_with fail
  refine (kh _).mono ?_
  rintro e wz ⟨rfl, hBz⟩
  go_wp2_with fail
  go_ret
  exact ⟨rfl, Below.on (Below.refl _ _) hBz⟩

set_option maxRecDepth 100000 in
set_option maxHeartbeats 4000000 in
theorem shr_2 (fl s m : Int) (A : Option Addr) (n cp : Nat) (w : World) (hq : 1 ≤ fl ∧ fl ≤ 1048576 ∧ s < 0) : Calls Try.prog 6 #[.int .i64 fl, .int .i64 s, .int .i64 m, .slice A n cp] w fun e w' => e = .returned (.bool true) ∧ Below w.heap.size w w' := by
  have kh := heads_any
  go_enter Try.func6, Try.ntmps6
  go_wp2_with fail
  refine (kh _).mono ?_
  rintro e wz ⟨rfl, hBz⟩
  go_wp2_with fail
  go_ret
  exact ⟨rfl, Below.on (Below.refl _ _) hBz⟩

set_option maxRecDepth 100000 in
set_option maxHeartbeats 4000000 in
theorem shr_3 (fl s m : Int) (A : Option Addr) (n cp : Nat) (w : World) (hq : 1 ≤ fl ∧ fl ≤ 1048576 ∧ 0 ≤ s ∧ fl < s) : Calls Try.prog 6 #[.int .i64 fl, .int .i64 s, .int .i64 m, .slice A n cp] w fun e w' => e = .returned (.bool true) ∧ Below w.heap.size w w' := by
  have kh := heads_any
  go_enter Try.func6, Try.ntmps6
  go_wp2_with fail
  refine (kh _).mono ?_
  rintro e wz ⟨rfl, hBz⟩
  go_wp2_with fail
  go_ret
  exact ⟨rfl, Below.on (Below.refl _ _) hBz⟩

set_option maxRecDepth 100000 in
set_option maxHeartbeats 4000000 in
theorem shr_4 (fl s m : Int) (A : Option Addr) (n cp : Nat) (w : World) (hq : 1 ≤ fl ∧ fl ≤ 1048576 ∧ 0 ≤ s ∧ s ≤ fl ∧ m < 1) : Calls Try.prog 6 #[.int .i64 fl, .int .i64 s, .int .i64 m, .slice A n cp] w fun e w' => e = .returned (.bool true) ∧ Below w.heap.size w w' := by
  have kh := heads_any
  go_enter Try.func6, Try.ntmps6
  go_wp2_with fail
  refine (kh _).mono ?_
  rintro e wz ⟨rfl, hBz⟩
  go_wp2_with fail
  go_ret
  exact ⟨rfl, Below.on (Below.refl _ _) hBz⟩

set_option maxRecDepth 100000 in
set_option maxHeartbeats 4000000 in
theorem shr_5 (fl s m : Int) (A : Option Addr) (n cp : Nat) (w : World) (hq : 1 ≤ fl ∧ fl ≤ 1048576 ∧ 0 ≤ s ∧ s ≤ fl ∧ 1 ≤ m ∧ 10000 < m) : Calls Try.prog 6 #[.int .i64 fl, .int .i64 s, .int .i64 m, .slice A n cp] w fun e w' => e = .returned (.bool true) ∧ Below w.heap.size w w' := by
  have kh := heads_any
  go_enter Try.func6, Try.ntmps6
  go_wp2_with fail
  refine (kh _).mono ?_
  rintro e wz ⟨rfl, hBz⟩
  go_wp2_with fail
  go_ret
  exact ⟨rfl, Below.on (Below.refl _ _) hBz⟩

set_option maxRecDepth 100000 in
set_option maxHeartbeats 4000000 in
theorem shr_6 (fl s m : Int) (A : Option Addr) (n cp : Nat) (w : World) (hq : 1 ≤ fl ∧ fl ≤ 1048576 ∧ 0 ≤ s ∧ s ≤ fl ∧ 1 ≤ m ∧ m ≤ 10000 ∧ (200 : Int) < (n : Int)) : Calls Try.prog 6 #[.int .i64 fl, .int .i64 s, .int .i64 m, .slice A n cp] w fun e w' => e = .returned (.bool true) ∧ Below w.heap.size w w' := by
  have kh := heads_any
  go_enter Try.func6, Try.ntmps6
  go_wp2_with fail
  refine (kh _).mono ?_
  rintro e wz ⟨rfl, hBz⟩
  go_wp2_with fail
  go_ret
  exact ⟨rfl, Below.on (Below.refl _ _) hBz⟩

set_option maxRecDepth 100000 in
set_option maxHeartbeats 4000000 in
theorem shares_go (fl s m : Int) (A : Option Addr) (n cp : Nat) (xs : List Int) (w : World) (hr : 1 ≤ fl ∧ fl ≤ 1048576 ∧ 0 ≤ s ∧ s ≤ fl ∧ 1 ≤ m ∧ m ≤ 10000) (hX : IntsAt w A xs) (hx : xs.length = n) (hnb : n ≤ 200)
    (k1 : ∀ W, Calls Try.prog 11 #[.int .i64 fl] W fun e w' => e = .returned (.tuple #[.agg #[.int .i64 0, .int .i64 0, .int .i64 fl], .int .i64 0]) ∧ Below W.heap.size W w') :
    Calls Try.prog 6 #[.int .i64 fl, .int .i64 s, .int .i64 m, .slice A n cp] w fun e w' => e = .returned (.bool true) ∧ Below w.heap.size w w' := by
  have kh := heads_any
  have hnb' : ¬ (200 : Int) < (n : Int) := by omega
  have HP : Hid (IntsAt w A xs ∧ xs.length = n) := ⟨hX, hx⟩
  clear hX hx
  go_enter Try.func6, Try.ntmps6
  go_wp2_with fail
  refine (k1 _).mono ?_
  rintro e w1 ⟨rfl, hB1⟩
  have HX1 : Hid (Below w.heap.size w (w1.alloc (.cells #[.int .i64 0, .int .i64 0, .int .i64 fl] 23)) ∧ BoxP (w1.alloc (.cells #[.int .i64 0, .int .i64 0, .int .i64 fl] 23)) w1.heap.size (.int .i64 0) (.int .i64 0) (.int .i64 fl)) := ⟨below_more hB1 _, BoxP.new _ _ _ _⟩
  have hsz : w.heap.size ≤ w1.heap.size := hB1.size
  clear hB1 k1
  go_wp2_with fail
  go_loopw [11, 12, 13] (fun v11 v12 v13 wr => ∃ (G O : Int) (i : Nat), v11 = .int .i64 G ∧ v12 = .int .i64 O ∧ v13 = .int .i64 (i : Int) ∧ i ≤ n ∧ 0 ≤ G ∧ G ≤ 5000 * (i : Int) ∧ 0 ≤ O ∧ O ≤ 1000000 ∧ Hid (O ≤ max m ((G * s + fl - 1) / fl) ∧ Below w.heap.size w wr ∧ BoxP wr w1.heap.size (.int .i64 G) (.int .i64 O) (.int .i64 fl)))
      (fun _ _ vi _ => n - (intOf vi).toNat)
  case atStart => exact ⟨0, 0, 0, rfl, rfl, rfl, by omega, by omega, by omega, by omega, by omega, by omega, HX1.out.1, HX1.out.2⟩
  case round =>
    obtain ⟨G, O, i, rfl, rfl, rfl, hin, hG1, hG2, hO1, hO2, HR⟩ := hrel
    clear HX1
    by_cases hi' : i < n
    · have hlt : (i : Int) < (n : Int) := by omega
      obtain ⟨b, p, rfl, hcell, hxb⟩ := HP.out.1.later HR.out.2.1 i (by rw [HP.out.2]; exact hi')
      obtain ⟨x, hxx⟩ : ∃ x, xs[i]?.getD 0 = x := ⟨_, rfl⟩
      rw [hxx] at hcell hxb
      unfold I64 at hxb
      clear hxx
      obtain ⟨X, hX⟩ : ∃ X, IntKind.u64.wrap x = X := ⟨_, rfl⟩
      have hX0 : 0 ≤ X ∧ X < 18446744073709551616 := by rw [← hX, IntKind.wrap_u64]; omega
      obtain ⟨e, he⟩ : ∃ e, X.tmod 5000 = e := ⟨_, rfl⟩
      have he0 : 0 ≤ e ∧ e < 5000 := by rw [← he, Int.tmod_eq_emod_of_nonneg hX0.1]; omega
      obtain ⟨q0, q1, q2⟩ := share_step (G := G) (O := O) (e := e) (s := s) (fl := fl) (m := m) (by omega) (by omega) (by omega) (by omega) hO1 HR.out.1
      obtain ⟨G2, hG⟩ : ∃ z, G + e = z := ⟨_, rfl⟩
      have hG3 : 0 ≤ G2 ∧ G2 ≤ 5000 * ((i : Int) + 1) ∧ G2 ≤ 1000000 := by omega
      rw [hG] at q0 q1 q2
      have kb : okB ⟨G, O, fl⟩ = true := ok_in (by omega)
      have ka : argB e (s + 1) s m = true := by unfold argB; apply decide_eq_true; omega
      obtain ⟨e1, e2, e3⟩ := giv_ok (b := true) kb ka
      rw [show moreI G e = G2 from by unfold moreI; omega] at e2 e3
      obtain ⟨q, hq⟩ : ∃ q, mayI G2 O fl e (s + 1) s m true = q := ⟨_, rfl⟩
      rw [hq] at q0 q1 e3
      clear hq
      have k2 : ∀ W, Calls Try.prog 9 #[.agg #[.int .i64 G, .int .i64 O, .int .i64 fl], .int .i64 e, .int .i64 (s + 1), .int .i64 s, .int .i64 m, .bool true] W fun e w' => e = .returned (.tuple #[.agg #[.int .i64 G2, .int .i64 O, .int .i64 fl], .int .i64 q, .int .i64 0]) ∧ Below W.heap.size W w' := fun W => giv_is G O fl e (s + 1) s m true W _ e2 _ e3 0 e1
      obtain ⟨P, hP⟩ : ∃ P, G2 * s = P := ⟨_, rfl⟩
      have hP0 : 0 ≤ P ∧ P ≤ 1048576000000 := by
        rw [← hP]
        have := Int.mul_le_mul (a := G2) (b := s) (c := 1000000) (d := 1048576) (by omega) (by omega) (by omega) (by omega)
        have := Int.mul_nonneg (a := G2) (b := s) (by omega) (by omega)
        omega
      rw [hP] at q1 q2
      obtain ⟨t, ht⟩ : ∃ t, (P + fl - 1).tdiv fl = t := ⟨_, rfl⟩
      have ht1 : (P + fl - 1) / fl = t := by rw [← ht, Int.tdiv_eq_ediv_of_nonneg (by omega)]
      rw [ht1] at q1 q2
      have ht0 : 0 ≤ t := by rw [← ht1]; exact Int.ediv_nonneg (by omega) (by omega)
      have ht5 : t ≤ 1000000 := q2
      obtain ⟨O2, hO⟩ : ∃ z, O + q = z := ⟨_, rfl⟩
      rw [hO] at q1
      have hO3 : 0 ≤ O2 ∧ O2 ≤ 1000000 := by omega
      have kc : okB ⟨G2, O, fl⟩ = true := ok_in (by omega)
      have kz : szB q = true := by unfold szB; apply decide_eq_true; omega
      have k3 : ∀ W, Calls Try.prog 10 #[.agg #[.int .i64 G2, .int .i64 O, .int .i64 fl], .int .i64 q] W fun e w' => e = .returned (.tuple #[.agg #[.int .i64 G2, .int .i64 O2, .int .i64 fl], .int .i64 0]) ∧ Below W.heap.size W w' := fun W => snt_is G2 O fl q W ⟨G2, O2, fl⟩ (by rw [sntR, if_pos kc, if_pos kz, show moreI O q = O2 from by unfold moreI; omega]) 0 (by rw [sntE, if_pos kc, if_pos kz])
      obtain ⟨mx, hmx⟩ : ∃ z, (if m < t then t else m) = z := ⟨_, rfl⟩
      have hO4 : O2 ≤ mx := by rw [← hmx]; split <;> omega
      have HI : Hid (O2 ≤ max m ((G2 * s + fl - 1) / fl)) := by unfold Hid; rw [hP, ht1]; omega
      have hq2 : q ≤ 1000000 := by omega
      clear kb ka e1 e2 e3 kc kz ht1 q1 q2
      obtain ⟨i0, i1, i2⟩ := HR.out.2.2.cells
      have hgr := HR.out.2.2.lt
      have hbl : b < wr.heap.size := lt_of_cell hcell
      go_wp2_with fail
      refine (k2 _).mono ?_
      rintro e_ w2 ⟨rfl, hB2⟩
      have HV : Hid (Below w.heap.size w (w2.alloc (.cells #[.int .i64 G2, .int .i64 O, .int .i64 fl] 23)) ∧ BoxP (w2.alloc (.cells #[.int .i64 G2, .int .i64 O, .int .i64 fl] 23)) w1.heap.size (.int .i64 G) (.int .i64 O) (.int .i64 fl) ∧ BoxP (w2.alloc (.cells #[.int .i64 G2, .int .i64 O, .int .i64 fl] 23)) w2.heap.size (.int .i64 G2) (.int .i64 O) (.int .i64 fl) ∧ w1.heap.size < w2.heap.size) := ⟨below_more (Below.on HR.out.2.1 hB2) _, (HR.out.2.2.later hB2).alloc _, BoxP.new _ _ _ _, (HR.out.2.2.later hB2).lt⟩
      clear HR hB2 k2 i0 i1 i2 hcell hbl hgr
      go_wp2_with fail
      refine (k3 _).mono ?_
      rintro e_ w3 ⟨rfl, hB3⟩
      obtain ⟨V, hV⟩ : ∃ V, (w3.alloc (.cells #[.int .i64 G2, .int .i64 O2, .int .i64 fl] 23)) = V := ⟨_, rfl⟩
      have HU : Hid (Below w.heap.size w V ∧ BoxP V w1.heap.size (.int .i64 G) (.int .i64 O) (.int .i64 fl) ∧ BoxP V w3.heap.size (.int .i64 G2) (.int .i64 O2) (.int .i64 fl) ∧ w1.heap.size < w3.heap.size) := by
        rw [← hV]
        exact ⟨below_more (Below.on HV.out.1 hB3) _, (HV.out.2.1.later hB3).alloc _, BoxP.new _ _ _ _, (HV.out.2.1.later hB3).lt⟩
      clear HV hB3 k3
      go_upto_region 16 with fail
      try rw [hV]
      clear hV
      obtain ⟨i0, i1, i2⟩ := HU.out.2.1.cells
      obtain ⟨j0, j1, j2⟩ := HU.out.2.2.1.cells
      have f1 := fun i => HU.out.2.1.frozen i
      have hgt := HU.out.2.2.2
      have hgr := HU.out.2.1.lt
      have HN : Hid (Below w.heap.size w (((V.setCell ⟨w1.heap.size, 0, none⟩ (.int .i64 G2)).setCell ⟨w1.heap.size, 1, none⟩ (.int .i64 O2)).setCell ⟨w1.heap.size, 2, none⟩ (.int .i64 fl)) ∧ BoxP (((V.setCell ⟨w1.heap.size, 0, none⟩ (.int .i64 G2)).setCell ⟨w1.heap.size, 1, none⟩ (.int .i64 O2)).setCell ⟨w1.heap.size, 2, none⟩ (.int .i64 fl)) w1.heap.size (.int .i64 G2) (.int .i64 O2) (.int .i64 fl)) := ⟨below_putP HU.out.1 _ hsz _ _ _, HU.out.2.1.put _ _ _⟩
      clear HU
      go_wp2_with fail
      go_roundw
      case rel => exact ⟨G2, O2, i + 1, by go_num, by go_num, by go_num, by omega, by omega, by push_cast; omega, by omega, by omega, HI.out, HN.out.1, HN.out.2⟩
      case measure => simp [intOf]; omega
    · have HZ : Hid (Below w.heap.size w wr) := HR.out.2.1
      clear HR
      go_wp2_with fail
      refine (kh _).mono ?_
      rintro e wz ⟨rfl, hBz⟩
      go_wp2_with fail
      go_ret
      exact ⟨rfl, Below.on HZ.out hBz⟩
theorem shares_walk (fl s m : Int) (A : Option Addr) (n cp : Nat) (xs : List Int) (w : World) (hfl : I64 fl) (hs : I64 s) (hm : I64 m) (hX : IntsAt w A xs) (hx : xs.length = n) (hnb : n ≤ 9223372036854775807) : Calls Try.prog 6 #[.int .i64 fl, .int .i64 s, .int .i64 m, .slice A n cp] w fun e w' => e = .returned (.bool true) ∧ Below w.heap.size w w' := by
  by_cases h0 : fl < 1
  · exact shr_0 fl s m A n cp w h0
  by_cases h1 : 1048576 < fl
  · exact shr_1 fl s m A n cp w (by omega)
  by_cases h2 : s < 0
  · exact shr_2 fl s m A n cp w (by omega)
  by_cases h3 : fl < s
  · exact shr_3 fl s m A n cp w (by omega)
  by_cases h4 : m < 1
  · exact shr_4 fl s m A n cp w (by omega)
  by_cases h5 : 10000 < m
  · exact shr_5 fl s m A n cp w (by omega)
  by_cases h6 : 200 < n
  · exact shr_6 fl s m A n cp w (by omega)
  have h : szB fl = true := by unfold szB; apply decide_eq_true; omega
  exact shares_go fl s m A n cp xs w (by omega) hX hx (by omega) (fun W => bgn_is fl W ⟨0, 0, fl⟩ (by rw [bgnR, if_pos h, show max fl 1 = fl from by omega]) 0 (by rw [bgnE, if_pos h]))
end Go.Proofs.Ytdfgdnpokjmjhaa
