/- Texts: KAsr, KRat, KFit, KChk -/
import Derived.Test.YtagmighcofllhaaDoorGA
import Derived.Test.YtagmighcofllhaaDoorKFitA
import Derived.Test.YtagmighcofllhaaDoorKFitB
import Derived.Test.YtagmighcofllhaaDoorKFitC
namespace Go.Proofs.YtagmighcofllhaaDoor
open Go.ChangeShapes Go.WideShapes Go.ChangeAt Go.RowKit
set_option linter.unusedVariables false
set_option linter.unusedSimpArgs false

open Fil

set_option maxRecDepth 100000 in
set_option maxHeartbeats 4000000 in
theorem asr_is (c : Cc) (w : World) : Calls Tryd.prog 45 #[ccv c] w fun e w' => e = .returned (ccv (asR c)) ∧ Below w.heap.size w w' := by
  go_enter Tryd.func45, Tryd.ntmps45
  go_wp2_with (first | (refine wpC_box rfl rfl rfl ?_))
  intro X1 p HN
  have HX1 : Hid (Below w.heap.size w X1 ∧ Box X1 p 48 (ccL c) ∧ w.heap.size ≤ p ∧ True) := by
    have hb := Below.refl w.heap.size w
    obtain ⟨hg, hb2, bn⟩ := HN.out
    have hz := hb.size
    exact ⟨Below.on hb hb2, bn, by omega, trivial⟩
  clear HN 
  go_wp2_with (first | (refine wpC_alloc rfl rfl zero26 ?_))
  intro X2 r HN
  have HX2 : Hid (Below w.heap.size w X2 ∧ Box X2 p 48 (ccL c) ∧ Box X2 r 26 (ccL zC) ∧ w.heap.size ≤ p ∧ p < r ∧ True) := by
    obtain ⟨hb, b0, l0, _⟩ := HX1.out
    obtain ⟨hg, hb2, bn⟩ := HN.out
    have z0 := b0.lt
    exact ⟨Below.on hb hb2, b0.later hb2, bn, l0, by omega, trivial⟩
  clear HN HX1
  have k1 := Box.cell (HX2.out.2.1) 1 rfl
  have k2 := Box.cell (HX2.out.2.1) 2 rfl
  have k3 := Box.cell (HX2.out.2.1) 3 rfl
  have k4 := Box.cell (HX2.out.2.1) 4 rfl
  have k5 := Box.cell (HX2.out.2.1) 5 rfl
  have k6 := Box.cell (HX2.out.2.1) 6 rfl
  have k7 := Box.cell (HX2.out.2.1) 7 rfl
  have k8 := Box.cell (HX2.out.2.1) 8 rfl
  have k9 := Box.cell (HX2.out.2.1) 9 rfl
  go_wp2_with (first | (refine wpC_build10 rfl rfl (asR_built c) rfl rfl rfl rfl rfl rfl rfl rfl rfl rfl ?_) | (refine wpC_store rfl isC26 rfl rfl rfl rfl (HX2.out.2.2.1) rfl ?_))
  intro X3 HN
  have HX3 : Hid (Below w.heap.size w X3 ∧ Box X3 p 48 (ccL c) ∧ Box X3 r 26 (ccL (asR c)) ∧ w.heap.size ≤ p ∧ p < r ∧ True) := by
    obtain ⟨hb, b0, b1, l0, l1, _⟩ := HX2.out
    obtain ⟨st, bn⟩ := HN.out
    exact ⟨st.below _ _ (by omega) hb, b0.sto st (by omega), bn, l0, l1, trivial⟩
  clear HN HX2
  clear k1 k2 k3 k4 k5 k6 k7 k8 k9
  go_wp2_with fail
  refine bodyPost_ret (resC1 isC26 rfl _ _ rfl (HX3.out.2.2.1)) rfl ?_
  exact ⟨rfl, HX3.out.1⟩
end Go.Proofs.YtagmighcofllhaaDoor

/- The contract of ratesFit. -/
namespace Go.Proofs.YtagmighcofllhaaDoor
open Go.ChangeShapes Go.WideShapes Go.ChangeAt Go.RowKit
set_option linter.unusedVariables false
set_option linter.unusedSimpArgs false

open Fil

set_option maxRecDepth 100000 in
set_option maxHeartbeats 4000000 in
theorem rat_a (c : Cc) (es : List Tm) (c1 : ∀ W, TimsAt W c.ba es → Calls Tryd.prog 68 #[.slice c.ba c.bn c.bc, .bool true] W fun e w' => e = .returned (.int .i64 2) ∧ Below W.heap.size W w')  (w : World) (hT : TimsAt w c.ba es) : Calls Tryd.prog 43 #[ccv c] w fun e w' => e = .returned (.bool false) ∧ Below w.heap.size w w' := by
  go_enter Tryd.func43, Tryd.ntmps43
  go_wp2_with (first | (refine wpC_box rfl rfl rfl ?_))
  intro X1 p HN
  have HX1 : Hid (Below w.heap.size w X1 ∧ Box X1 p 48 (ccL c) ∧ w.heap.size ≤ p ∧ True) := by
    have hb := Below.refl w.heap.size w
    obtain ⟨hg, hb2, bn⟩ := HN.out
    have hz := hb.size
    exact ⟨Below.on hb hb2, bn, by omega, trivial⟩
  clear HN 
  have k11 := Box.cell (HX1.out.2.1) 11 rfl
  go_wp2_with fail
  refine (c1 _ (hT.below (HX1.out.1) (Nat.le_refl _))).mono ?_
  rintro e w2 ⟨rfl, hB⟩
  have HX2 : Hid (Below w.heap.size w w2 ∧ Box w2 p 48 (ccL c) ∧ w.heap.size ≤ p ∧ True) := by
    obtain ⟨hb, b0, l0, _⟩ := HX1.out
    exact ⟨Below.on hb hB, b0.later hB, l0, trivial⟩
  clear hB HX1
  clear k11 c1
  go_wp2_with fail
  go_ret
  exact ⟨rfl, HX2.out.1⟩

set_option maxRecDepth 100000 in
set_option maxHeartbeats 4000000 in
theorem rat_b (c : Cc) (es : List Tm) (n : Nat) (HL : Hid (c.bn = n ∧ n = 0)) (c1 : ∀ W, TimsAt W c.ba es → Calls Tryd.prog 68 #[.slice c.ba c.bn c.bc, .bool true] W fun e w' => e = .returned (.int .i64 0) ∧ Below W.heap.size W w')  (w : World) (hT : TimsAt w c.ba es) : Calls Tryd.prog 43 #[ccv c] w fun e w' => e = .returned (.bool true) ∧ Below w.heap.size w w' := by
  go_enter Tryd.func43, Tryd.ntmps43
  go_wp2_with (first | (refine wpC_box rfl rfl rfl ?_))
  intro X1 p HN
  have HX1 : Hid (Below w.heap.size w X1 ∧ Box X1 p 48 (ccL c) ∧ w.heap.size ≤ p ∧ True) := by
    have hb := Below.refl w.heap.size w
    obtain ⟨hg, hb2, bn⟩ := HN.out
    have hz := hb.size
    exact ⟨Below.on hb hb2, bn, by omega, trivial⟩
  clear HN 
  have k11 := Box.cell (HX1.out.2.1) 11 rfl
  go_wp2_with fail
  refine (c1 _ (hT.below (HX1.out.1) (Nat.le_refl _))).mono ?_
  rintro e w2 ⟨rfl, hB⟩
  have HX2 : Hid (Below w.heap.size w w2 ∧ Box w2 p 48 (ccL c) ∧ w.heap.size ≤ p ∧ True) := by
    obtain ⟨hb, b0, l0, _⟩ := HX1.out
    exact ⟨Below.on hb hB, b0.later hB, l0, trivial⟩
  clear hB HX1
  clear k11 c1
  have k11 : w2.cell? ⟨p, 11, none⟩ = some (.slice c.ba n c.bc) := by
    have := Box.cell (HX2.out.2.1) 11 rfl
    rw [HL.out.1] at this
    exact this
  have hn2 : ((n : Int) == 0) = true := by have := HL.out.2; simp; omega
  clear HL
  go_upto_region 4 with fail
  go_quiet (fail)
  go_wp2_with fail
  go_ret
  exact ⟨rfl, below_drewN HX2.out.1 _⟩

set_option maxRecDepth 100000 in
set_option maxHeartbeats 4000000 in
theorem rat_c (c : Cc) (es : List Tm) (w : World) (b o n k : Nat) (v t : Int) (HL : Hid (c.ba = some ⟨b, o, none⟩ ∧ c.bn = n ∧ n = k + 1)) (hm : n ≤ 9223372036854775807) (hv : decide (v ≤ 1099511627776) = false)  (hbl : b < w.heap.size) (hc0 : w.cell? ⟨b, o + 1, none⟩ = some (.int .i64 v)) (hck : w.cell? ⟨b, o + k * 2, none⟩ = some (.int .i64 t)) (c1 : ∀ W, TimsAt W c.ba es → Calls Tryd.prog 68 #[.slice c.ba c.bn c.bc, .bool true] W fun e w' => e = .returned (.int .i64 0) ∧ Below W.heap.size W w')  (hT : TimsAt w c.ba es) : Calls Tryd.prog 43 #[ccv c] w fun e w' => e = .returned (.bool false) ∧ Below w.heap.size w w' := by
  go_enter Tryd.func43, Tryd.ntmps43
  go_wp2_with (first | (refine wpC_box rfl rfl rfl ?_))
  intro X1 p HN
  have HX1 : Hid (Below w.heap.size w X1 ∧ Box X1 p 48 (ccL c) ∧ w.heap.size ≤ p ∧ True) := by
    have hb := Below.refl w.heap.size w
    obtain ⟨hg, hb2, bn⟩ := HN.out
    have hz := hb.size
    exact ⟨Below.on hb hb2, bn, by omega, trivial⟩
  clear HN 
  have k11 := Box.cell (HX1.out.2.1) 11 rfl
  go_wp2_with fail
  refine (c1 _ (hT.below (HX1.out.1) (Nat.le_refl _))).mono ?_
  rintro e w2 ⟨rfl, hB⟩
  have HX2 : Hid (Below w.heap.size w w2 ∧ Box w2 p 48 (ccL c) ∧ w.heap.size ≤ p ∧ True) := by
    obtain ⟨hb, b0, l0, _⟩ := HX1.out
    exact ⟨Below.on hb hB, b0.later hB, l0, trivial⟩
  clear hB HX1
  clear k11 c1
  have k11 : w2.cell? ⟨p, 11, none⟩ = some (.slice (some ⟨b, o, none⟩) n c.bc) := by
    have := Box.cell (HX2.out.2.1) 11 rfl
    rw [HL.out.1, HL.out.2.1] at this
    exact this
  have k14 := Box.cell (HX2.out.2.1) 14 rfl
  have f0 : w2.cell? ⟨b, o + 1, none⟩ = some (.int .i64 v) := (Below.cell (p := ⟨b, o + 1, none⟩) (HX2.out.1) hbl).trans hc0
  have f1 : w2.cell? ⟨b, o + k * 2, none⟩ = some (.int .i64 t) := (Below.cell (p := ⟨b, o + k * 2, none⟩) (HX2.out.1) hbl).trans hck
  have hk := HL.out.2.2
  clear HL
  have hn2 : ((n : Int) == 0) = false := by simp; omega
  have hs : IntKind.i64.wrap ((n : Int) - 1) = (k : Int) := by rw [IntKind.wrap_i64]; omega
  have hkn : (k : Int) < (n : Int) := by omega
  have h0n : (0 : Int) < (n : Int) := by omega
  clear hk
  go_upto_region 4 with fail
  go_quiet (fail)
  go_wp2_with fail
  go_ret
  exact ⟨ret_bool (by first | rfl | (simp; omega)), below_drewN HX2.out.1 _⟩

set_option maxRecDepth 100000 in
set_option maxHeartbeats 4000000 in
theorem rat_d (c : Cc) (es : List Tm) (w : World) (b o n k : Nat) (v t : Int) (HL : Hid (c.ba = some ⟨b, o, none⟩ ∧ c.bn = n ∧ n = k + 1)) (hm : n ≤ 9223372036854775807) (hv : decide (v ≤ 1099511627776) = true) (ha : decide (t ≤ c.rd) = false) (hbl : b < w.heap.size) (hc0 : w.cell? ⟨b, o + 1, none⟩ = some (.int .i64 v)) (hck : w.cell? ⟨b, o + k * 2, none⟩ = some (.int .i64 t)) (c1 : ∀ W, TimsAt W c.ba es → Calls Tryd.prog 68 #[.slice c.ba c.bn c.bc, .bool true] W fun e w' => e = .returned (.int .i64 0) ∧ Below W.heap.size W w')  (hT : TimsAt w c.ba es) : Calls Tryd.prog 43 #[ccv c] w fun e w' => e = .returned (.bool false) ∧ Below w.heap.size w w' := by
  go_enter Tryd.func43, Tryd.ntmps43
  go_wp2_with (first | (refine wpC_box rfl rfl rfl ?_))
  intro X1 p HN
  have HX1 : Hid (Below w.heap.size w X1 ∧ Box X1 p 48 (ccL c) ∧ w.heap.size ≤ p ∧ True) := by
    have hb := Below.refl w.heap.size w
    obtain ⟨hg, hb2, bn⟩ := HN.out
    have hz := hb.size
    exact ⟨Below.on hb hb2, bn, by omega, trivial⟩
  clear HN 
  have k11 := Box.cell (HX1.out.2.1) 11 rfl
  go_wp2_with fail
  refine (c1 _ (hT.below (HX1.out.1) (Nat.le_refl _))).mono ?_
  rintro e w2 ⟨rfl, hB⟩
  have HX2 : Hid (Below w.heap.size w w2 ∧ Box w2 p 48 (ccL c) ∧ w.heap.size ≤ p ∧ True) := by
    obtain ⟨hb, b0, l0, _⟩ := HX1.out
    exact ⟨Below.on hb hB, b0.later hB, l0, trivial⟩
  clear hB HX1
  clear k11 c1
  have k11 : w2.cell? ⟨p, 11, none⟩ = some (.slice (some ⟨b, o, none⟩) n c.bc) := by
    have := Box.cell (HX2.out.2.1) 11 rfl
    rw [HL.out.1, HL.out.2.1] at this
    exact this
  have k14 := Box.cell (HX2.out.2.1) 14 rfl
  have f0 : w2.cell? ⟨b, o + 1, none⟩ = some (.int .i64 v) := (Below.cell (p := ⟨b, o + 1, none⟩) (HX2.out.1) hbl).trans hc0
  have f1 : w2.cell? ⟨b, o + k * 2, none⟩ = some (.int .i64 t) := (Below.cell (p := ⟨b, o + k * 2, none⟩) (HX2.out.1) hbl).trans hck
  have hk := HL.out.2.2
  clear HL
  have hn2 : ((n : Int) == 0) = false := by simp; omega
  have hs : IntKind.i64.wrap ((n : Int) - 1) = (k : Int) := by rw [IntKind.wrap_i64]; omega
  have hkn : (k : Int) < (n : Int) := by omega
  have h0n : (0 : Int) < (n : Int) := by omega
  clear hk
  go_upto_region 4 with fail
  go_quiet (fail)
  go_wp2_with fail
  go_ret
  exact ⟨ret_bool (by first | rfl | (simp; omega)), below_drewN HX2.out.1 _⟩

set_option maxRecDepth 100000 in
set_option maxHeartbeats 4000000 in
theorem rat_e (c : Cc) (es : List Tm) (w : World) (b o n k : Nat) (v t : Int) (HL : Hid (c.ba = some ⟨b, o, none⟩ ∧ c.bn = n ∧ n = k + 1)) (hm : n ≤ 9223372036854775807) (hv : decide (v ≤ 1099511627776) = true) (ha : decide (t ≤ c.rd) = true) (hbl : b < w.heap.size) (hc0 : w.cell? ⟨b, o + 1, none⟩ = some (.int .i64 v)) (hck : w.cell? ⟨b, o + k * 2, none⟩ = some (.int .i64 t)) (c1 : ∀ W, TimsAt W c.ba es → Calls Tryd.prog 68 #[.slice c.ba c.bn c.bc, .bool true] W fun e w' => e = .returned (.int .i64 0) ∧ Below W.heap.size W w')  (hT : TimsAt w c.ba es) : Calls Tryd.prog 43 #[ccv c] w fun e w' => e = .returned (.bool true) ∧ Below w.heap.size w w' := by
  go_enter Tryd.func43, Tryd.ntmps43
  go_wp2_with (first | (refine wpC_box rfl rfl rfl ?_))
  intro X1 p HN
  have HX1 : Hid (Below w.heap.size w X1 ∧ Box X1 p 48 (ccL c) ∧ w.heap.size ≤ p ∧ True) := by
    have hb := Below.refl w.heap.size w
    obtain ⟨hg, hb2, bn⟩ := HN.out
    have hz := hb.size
    exact ⟨Below.on hb hb2, bn, by omega, trivial⟩
  clear HN 
  have k11 := Box.cell (HX1.out.2.1) 11 rfl
  go_wp2_with fail
  refine (c1 _ (hT.below (HX1.out.1) (Nat.le_refl _))).mono ?_
  rintro e w2 ⟨rfl, hB⟩
  have HX2 : Hid (Below w.heap.size w w2 ∧ Box w2 p 48 (ccL c) ∧ w.heap.size ≤ p ∧ True) := by
    obtain ⟨hb, b0, l0, _⟩ := HX1.out
    exact ⟨Below.on hb hB, b0.later hB, l0, trivial⟩
  clear hB HX1
  clear k11 c1
  have k11 : w2.cell? ⟨p, 11, none⟩ = some (.slice (some ⟨b, o, none⟩) n c.bc) := by
    have := Box.cell (HX2.out.2.1) 11 rfl
    rw [HL.out.1, HL.out.2.1] at this
    exact this
  have k14 := Box.cell (HX2.out.2.1) 14 rfl
  have f0 : w2.cell? ⟨b, o + 1, none⟩ = some (.int .i64 v) := (Below.cell (p := ⟨b, o + 1, none⟩) (HX2.out.1) hbl).trans hc0
  have f1 : w2.cell? ⟨b, o + k * 2, none⟩ = some (.int .i64 t) := (Below.cell (p := ⟨b, o + k * 2, none⟩) (HX2.out.1) hbl).trans hck
  have hk := HL.out.2.2
  clear HL
  have hn2 : ((n : Int) == 0) = false := by simp; omega
  have hs : IntKind.i64.wrap ((n : Int) - 1) = (k : Int) := by rw [IntKind.wrap_i64]; omega
  have hkn : (k : Int) < (n : Int) := by omega
  have h0n : (0 : Int) < (n : Int) := by omega
  clear hk
  go_upto_region 4 with fail
  go_quiet (fail)
  go_wp2_with fail
  go_ret
  exact ⟨ret_bool (by first | rfl | (simp; omega)), below_drewN HX2.out.1 _⟩

theorem lastE_at {l : List Tm} {n : Nat} (h : l.length = n + 1) : Fil.lastE none l = some (l[n]?.getD (0, 0)) := Fil.last_at h
/-- Of entries that may be, the first has the greatest value, the last the greatest time. -/
theorem rat_ends {l : List Tm} {n : Nat} {r : Int} (hc : chk true none l = true) (hl : l.length = n + 1) : (l.all fun x => decide (x.2 ≤ 1099511627776) && decide (x.1 ≤ r)) = (decide ((l[0]?.getD (0, 0)).2 ≤ 1099511627776) && decide ((l[n]?.getD (0, 0)).1 ≤ r)) := by
  obtain ⟨_, hp, _⟩ := (chk_iff true l none).1 hc
  have h0 : (0 : Nat) < l.length := by omega
  have hn : n < l.length := by omega
  have e0 : l[0]?.getD (0, 0) = l[0] := by simp [h0]
  have en : l[n]?.getD (0, 0) = l[n] := by simp [hn]
  rw [e0, en, Bool.eq_iff_iff]
  simp only [List.all_eq_true, Bool.and_eq_true, decide_eq_true_eq]
  constructor
  · intro h
    exact ⟨(h _ (List.getElem_mem h0)).1, (h _ (List.getElem_mem hn)).2⟩
  · rintro ⟨h1, h2⟩ x hx
    obtain ⟨j, hj, rfl⟩ := List.getElem_of_mem hx
    have hpw := List.pairwise_iff_getElem.1 hp
    refine ⟨?_, ?_⟩
    · rcases Nat.eq_zero_or_pos j with rfl | hj0
      · exact h1
      · have := hpw 0 j h0 hj hj0
        rw [fol_iff, beat_true] at this
        omega
    · rcases Nat.lt_or_ge j n with hjn | hjn
      · have := hpw j n hj hn hjn
        rw [fol_iff] at this
        omega
      · have : j = n := by omega
        subst this
        exact h2
theorem rat8_is (c : Cc) (es : List Tm) {q : Bool} (hq : rat8 c es = q) (hn : es.length = c.bn) (w : World) (hT : TimsAt w c.ba es) : Calls Tryd.prog 43 #[ccv c] w fun e w' => e = .returned (.bool q) ∧ Below w.heap.size w w' := by
  subst hq
  have c1 : ∀ W, TimsAt W c.ba es → ∀ q, errI true es = q → Calls Tryd.prog 68 #[.slice c.ba c.bn c.bc, .bool true] W fun e w' => e = .returned (.int .i64 q) ∧ Below W.heap.size W w' := fun W hW q hq => check_is c.ba c.bc es true W hW c.bn hn q hq
  unfold rat8
  cases hc : chk true none es with
  | false =>
    rw [Bool.false_and]
    exact rat_a c es (fun W hW => c1 W hW 2 (by unfold errI; rw [if_neg (by rw [hc]; simp)])) w hT
  | true =>
    rw [Bool.true_and]
    have c2 := fun W hW => c1 W hW 0 (by unfold errI; rw [if_pos hc])
    rcases Nat.eq_zero_or_pos es.length with h0 | h0
    · obtain rfl := List.eq_nil_of_length_eq_zero h0
      exact rat_b c [] _ ⟨hn.symm, rfl⟩ c2 w hT
    · obtain ⟨k, hk⟩ : ∃ k, es.length = k + 1 := ⟨es.length - 1, by omega⟩
      rw [rat_ends hc hk]
      obtain ⟨b, o, hba, _, hv⟩ := hT.2 0 (by omega)
      obtain ⟨b', o', hba', ht, _⟩ := hT.2 k (by omega)
      rw [hba] at hba'
      cases hba'
      have hm : es.length ≤ 9223372036854775807 := hT.1
      rw [Nat.zero_mul, Nat.add_zero] at hv
      have hbl := lt_of_cell hv
      by_cases h1 : (es[0]?.getD (0, 0)).2 ≤ 1099511627776
      · by_cases h2 : (es[k]?.getD (0, 0)).1 ≤ c.rd
        · rw [show (decide ((es[0]?.getD (0, 0)).2 ≤ 1099511627776) && decide ((es[k]?.getD (0, 0)).1 ≤ c.rd)) = true by simp [h1, h2]]
          exact rat_e c es w b o _ k _ _ ⟨hba, hn.symm, hk⟩ hm (decide_eq_true h1) (decide_eq_true h2) hbl hv ht c2 hT
        · rw [show (decide ((es[0]?.getD (0, 0)).2 ≤ 1099511627776) && decide ((es[k]?.getD (0, 0)).1 ≤ c.rd)) = false by simp [h2]]
          exact rat_d c es w b o _ k _ _ ⟨hba, hn.symm, hk⟩ hm (decide_eq_true h1) (decide_eq_false (by omega)) hbl hv ht c2 hT
      · rw [show (decide ((es[0]?.getD (0, 0)).2 ≤ 1099511627776) && decide ((es[k]?.getD (0, 0)).1 ≤ c.rd)) = false by simp [h1]]
        exact rat_c c es w b o _ k _ _ ⟨hba, hn.symm, hk⟩ hm (decide_eq_false (by omega)) hbl hv ht c2 hT
end Go.Proofs.YtagmighcofllhaaDoor

/- The contract of fits. -/
namespace Go.Proofs.YtagmighcofllhaaDoor
open Go.ChangeShapes Go.WideShapes Go.ChangeAt Go.RowKit
set_option linter.unusedVariables false
set_option linter.unusedSimpArgs false

open Fil

theorem fit8_is (c : Cc) {b : Bool} (hb : fit8 c = b) (w : World) : Calls Tryd.prog 42 #[ccv c] w fun e w' => e = .returned (.bool b) ∧ Below w.heap.size w w' := by
  subst hb
  by_cases h0 : (1 ≤ c.md ∧ c.md ≤ 4)
  case neg => rw [show fit8 c = false from decide_eq_false (by omega)]; exact fit8_0 c (by omega) w
  by_cases h1 : (0 ≤ c.mr ∧ c.mr ≤ 1125899906842624)
  case neg => rw [show fit8 c = false from decide_eq_false (by omega)]; exact fit8_1 c (by omega) w
  by_cases h2 : (0 ≤ c.ma ∧ c.ma ≤ 1125899906842624)
  case neg => rw [show fit8 c = false from decide_eq_false (by omega)]; exact fit8_2 c (by omega) w
  by_cases h3 : (0 ≤ c.rd ∧ c.rd ≤ 1125899906842624)
  case neg => rw [show fit8 c = false from decide_eq_false (by omega)]; exact fit8_3 c (by omega) w
  by_cases h4 : (0 ≤ c.na ∧ c.na ≤ 1125899906842624)
  case neg => rw [show fit8 c = false from decide_eq_false (by omega)]; exact fit8_4 c (by omega) w
  by_cases h5 : 0 ≤ c.fu
  case neg => rw [show fit8 c = false from decide_eq_false (by omega)]; exact fit8_5 c (by omega) w
  by_cases h6 : c.fu ≤ 1099511627776
  case neg => rw [show fit8 c = false from decide_eq_false (by omega)]; exact fit8_6 c (by omega) w
  by_cases h7 : 0 ≤ c.fc
  case neg => rw [show fit8 c = false from decide_eq_false (by omega)]; exact fit8_7 c (by omega) w
  by_cases h8 : c.fc ≤ 3
  case neg => rw [show fit8 c = false from decide_eq_false (by omega)]; exact fit8_8 c (by omega) w
  by_cases h9 : 0 ≤ c.ph
  case neg => rw [show fit8 c = false from decide_eq_false (by omega)]; exact fit8_9 c (by omega) w
  by_cases h10 : c.ph < 8
  case neg => rw [show fit8 c = false from decide_eq_false (by omega)]; exact fit8_10 c (by omega) w
  by_cases h11 : (0 ≤ c.pa ∧ c.pa ≤ 1125899906842624)
  case neg => rw [show fit8 c = false from decide_eq_false (by omega)]; exact fit8_11 c (by omega) w
  by_cases h12 : (0 ≤ c.da ∧ c.da ≤ 1125899906842624)
  case neg => rw [show fit8 c = false from decide_eq_false (by omega)]; exact fit8_12 c (by omega) w
  by_cases h13 : (0 ≤ c.pr ∧ c.pr ≤ 1073741824)
  case neg => rw [show fit8 c = false from decide_eq_false (by omega)]; exact fit8_13 c (by omega) w
  rw [show fit8 c = true from decide_eq_true (by omega)]; exact fit8_14 c (by omega) w
end Go.Proofs.YtagmighcofllhaaDoor

/- The contract of Check. -/
namespace Go.Proofs.YtagmighcofllhaaDoor
open Go.ChangeShapes Go.WideShapes Go.ChangeAt Go.RowKit
set_option linter.unusedVariables false
set_option linter.unusedSimpArgs false

open Fil

set_option maxRecDepth 100000 in
set_option maxHeartbeats 4000000 in
theorem chk8_0 (w : World) (c : Cc) (hn : (c.kd != 3) = true) (hn2 : ¬ c.kd = 3) : Calls Tryd.prog 11 #[ccv c] w fun e w' => e = .returned (.int .i64 230) ∧ Below w.heap.size w w' := by
  go_enter Tryd.func11, Tryd.ntmps11
  go_wp2_with (first | (refine wpC_box rfl rfl rfl ?_))
  intro X1 p HN
  have HX1 : Hid (Below w.heap.size w X1 ∧ Box X1 p 26 (ccL c) ∧ w.heap.size ≤ p ∧ True) := by
    have hb := Below.refl w.heap.size w
    obtain ⟨hg, hb2, bn⟩ := HN.out
    have hz := hb.size
    exact ⟨Below.on hb hb2, bn, by omega, trivial⟩
  clear HN 
  go_wp2_with (first | (refine wpC_load rfl isC26 rfl rfl (HX1.out.2.1) ?_) | (refine wpC_build1 rfl rfl rfl (built48C _) ?_) | (refine wpC_alloc rfl rfl zero48 ?_))
  intro X2 k HN
  have HX2 : Hid (Below w.heap.size w X2 ∧ Box X2 p 26 (ccL c) ∧ Box X2 k 48 (ccL zC) ∧ w.heap.size ≤ p ∧ p < k ∧ True) := by
    obtain ⟨hb, b0, l0, _⟩ := HX1.out
    obtain ⟨hg, hb2, bn⟩ := HN.out
    have z0 := b0.lt
    exact ⟨Below.on hb hb2, b0.later hb2, bn, l0, by omega, trivial⟩
  clear HN HX1
  go_wp2_with (first | (refine wpC_store rfl isC48 rfl rfl rfl rfl (HX2.out.2.2.1) rfl ?_))
  intro X3 HN
  have HX3 : Hid (Below w.heap.size w X3 ∧ Box X3 p 26 (ccL c) ∧ Box X3 k 48 (ccL c) ∧ w.heap.size ≤ p ∧ p < k ∧ True) := by
    obtain ⟨hb, b0, b1, l0, l1, _⟩ := HX2.out
    obtain ⟨st, bn⟩ := HN.out
    exact ⟨st.below _ _ (by omega) hb, b0.sto st (by omega), bn, l0, l1, trivial⟩
  clear HN HX2
  have k0 := Box.cell (HX3.out.2.2.1) 0 rfl
  go_wp2_with fail
  go_ret
  exact ⟨rfl, HX3.out.1⟩

set_option maxRecDepth 100000 in
set_option maxHeartbeats 4000000 in
theorem chk8_1 (w : World) (c : Cc) (h0 : c.kd = 3) (hn : (c.ss != 1073741824) = true) (hn2 : ¬ c.ss = 1073741824) : Calls Tryd.prog 11 #[ccv c] w fun e w' => e = .returned (.int .i64 230) ∧ Below w.heap.size w w' := by
  go_enter Tryd.func11, Tryd.ntmps11
  go_wp2_with (first | (refine wpC_box rfl rfl rfl ?_))
  intro X1 p HN
  have HX1 : Hid (Below w.heap.size w X1 ∧ Box X1 p 26 (ccL c) ∧ w.heap.size ≤ p ∧ True) := by
    have hb := Below.refl w.heap.size w
    obtain ⟨hg, hb2, bn⟩ := HN.out
    have hz := hb.size
    exact ⟨Below.on hb hb2, bn, by omega, trivial⟩
  clear HN 
  go_wp2_with (first | (refine wpC_load rfl isC26 rfl rfl (HX1.out.2.1) ?_) | (refine wpC_build1 rfl rfl rfl (built48C _) ?_) | (refine wpC_alloc rfl rfl zero48 ?_))
  intro X2 k HN
  have HX2 : Hid (Below w.heap.size w X2 ∧ Box X2 p 26 (ccL c) ∧ Box X2 k 48 (ccL zC) ∧ w.heap.size ≤ p ∧ p < k ∧ True) := by
    obtain ⟨hb, b0, l0, _⟩ := HX1.out
    obtain ⟨hg, hb2, bn⟩ := HN.out
    have z0 := b0.lt
    exact ⟨Below.on hb hb2, b0.later hb2, bn, l0, by omega, trivial⟩
  clear HN HX1
  go_wp2_with (first | (refine wpC_store rfl isC48 rfl rfl rfl rfl (HX2.out.2.2.1) rfl ?_))
  intro X3 HN
  have HX3 : Hid (Below w.heap.size w X3 ∧ Box X3 p 26 (ccL c) ∧ Box X3 k 48 (ccL c) ∧ w.heap.size ≤ p ∧ p < k ∧ True) := by
    obtain ⟨hb, b0, b1, l0, l1, _⟩ := HX2.out
    obtain ⟨st, bn⟩ := HN.out
    exact ⟨st.below _ _ (by omega) hb, b0.sto st (by omega), bn, l0, l1, trivial⟩
  clear HN HX2
  have k0 : X3.cell? ⟨k, 0, none⟩ = some (.int .i64 3) := by
    have := Box.cell (HX3.out.2.2.1) 0 rfl
    rw [h0] at this
    exact this
  clear h0
  have k3 := Box.cell (HX3.out.2.2.1) 3 rfl
  go_wp2_with fail
  go_ret
  exact ⟨rfl, HX3.out.1⟩

set_option maxRecDepth 100000 in
set_option maxHeartbeats 4000000 in
theorem chk8_2 (w : World) (c : Cc) (h0 : c.kd = 3) (h1 : c.ss = 1073741824) (hn : (c.ac != 0) = true) (hn2 : ¬ c.ac = 0) : Calls Tryd.prog 11 #[ccv c] w fun e w' => e = .returned (.int .i64 230) ∧ Below w.heap.size w w' := by
  go_enter Tryd.func11, Tryd.ntmps11
  go_wp2_with (first | (refine wpC_box rfl rfl rfl ?_))
  intro X1 p HN
  have HX1 : Hid (Below w.heap.size w X1 ∧ Box X1 p 26 (ccL c) ∧ w.heap.size ≤ p ∧ True) := by
    have hb := Below.refl w.heap.size w
    obtain ⟨hg, hb2, bn⟩ := HN.out
    have hz := hb.size
    exact ⟨Below.on hb hb2, bn, by omega, trivial⟩
  clear HN 
  go_wp2_with (first | (refine wpC_load rfl isC26 rfl rfl (HX1.out.2.1) ?_) | (refine wpC_build1 rfl rfl rfl (built48C _) ?_) | (refine wpC_alloc rfl rfl zero48 ?_))
  intro X2 k HN
  have HX2 : Hid (Below w.heap.size w X2 ∧ Box X2 p 26 (ccL c) ∧ Box X2 k 48 (ccL zC) ∧ w.heap.size ≤ p ∧ p < k ∧ True) := by
    obtain ⟨hb, b0, l0, _⟩ := HX1.out
    obtain ⟨hg, hb2, bn⟩ := HN.out
    have z0 := b0.lt
    exact ⟨Below.on hb hb2, b0.later hb2, bn, l0, by omega, trivial⟩
  clear HN HX1
  go_wp2_with (first | (refine wpC_store rfl isC48 rfl rfl rfl rfl (HX2.out.2.2.1) rfl ?_))
  intro X3 HN
  have HX3 : Hid (Below w.heap.size w X3 ∧ Box X3 p 26 (ccL c) ∧ Box X3 k 48 (ccL c) ∧ w.heap.size ≤ p ∧ p < k ∧ True) := by
    obtain ⟨hb, b0, b1, l0, l1, _⟩ := HX2.out
    obtain ⟨st, bn⟩ := HN.out
    exact ⟨st.below _ _ (by omega) hb, b0.sto st (by omega), bn, l0, l1, trivial⟩
  clear HN HX2
  have k0 : X3.cell? ⟨k, 0, none⟩ = some (.int .i64 3) := by
    have := Box.cell (HX3.out.2.2.1) 0 rfl
    rw [h0] at this
    exact this
  clear h0
  have k3 : X3.cell? ⟨k, 3, none⟩ = some (.int .i64 1073741824) := by
    have := Box.cell (HX3.out.2.2.1) 3 rfl
    rw [h1] at this
    exact this
  clear h1
  have k4 := Box.cell (HX3.out.2.2.1) 4 rfl
  go_wp2_with fail
  go_ret
  exact ⟨rfl, HX3.out.1⟩

set_option maxRecDepth 100000 in
set_option maxHeartbeats 4000000 in
theorem chk8_f (w : World) (c : Cc) (h0 : c.kd = 3) (h1 : c.ss = 1073741824) (h2 : c.ac = 0) (c1 : ∀ W, Below w.heap.size w W → Calls Tryd.prog 42 #[ccv c] W fun e w' => e = .returned (.bool false) ∧ Below W.heap.size W w')  : Calls Tryd.prog 11 #[ccv c] w fun e w' => e = .returned (.int .i64 230) ∧ Below w.heap.size w w' := by
  go_enter Tryd.func11, Tryd.ntmps11
  go_wp2_with (first | (refine wpC_box rfl rfl rfl ?_))
  intro X1 p HN
  have HX1 : Hid (Below w.heap.size w X1 ∧ Box X1 p 26 (ccL c) ∧ w.heap.size ≤ p ∧ True) := by
    have hb := Below.refl w.heap.size w
    obtain ⟨hg, hb2, bn⟩ := HN.out
    have hz := hb.size
    exact ⟨Below.on hb hb2, bn, by omega, trivial⟩
  clear HN 
  go_wp2_with (first | (refine wpC_load rfl isC26 rfl rfl (HX1.out.2.1) ?_) | (refine wpC_build1 rfl rfl rfl (built48C _) ?_) | (refine wpC_alloc rfl rfl zero48 ?_))
  intro X2 k HN
  have HX2 : Hid (Below w.heap.size w X2 ∧ Box X2 p 26 (ccL c) ∧ Box X2 k 48 (ccL zC) ∧ w.heap.size ≤ p ∧ p < k ∧ True) := by
    obtain ⟨hb, b0, l0, _⟩ := HX1.out
    obtain ⟨hg, hb2, bn⟩ := HN.out
    have z0 := b0.lt
    exact ⟨Below.on hb hb2, b0.later hb2, bn, l0, by omega, trivial⟩
  clear HN HX1
  go_wp2_with (first | (refine wpC_store rfl isC48 rfl rfl rfl rfl (HX2.out.2.2.1) rfl ?_))
  intro X3 HN
  have HX3 : Hid (Below w.heap.size w X3 ∧ Box X3 p 26 (ccL c) ∧ Box X3 k 48 (ccL c) ∧ w.heap.size ≤ p ∧ p < k ∧ True) := by
    obtain ⟨hb, b0, b1, l0, l1, _⟩ := HX2.out
    obtain ⟨st, bn⟩ := HN.out
    exact ⟨st.below _ _ (by omega) hb, b0.sto st (by omega), bn, l0, l1, trivial⟩
  clear HN HX2
  have k0 : X3.cell? ⟨k, 0, none⟩ = some (.int .i64 3) := by
    have := Box.cell (HX3.out.2.2.1) 0 rfl
    rw [h0] at this
    exact this
  clear h0
  have k3 : X3.cell? ⟨k, 3, none⟩ = some (.int .i64 1073741824) := by
    have := Box.cell (HX3.out.2.2.1) 3 rfl
    rw [h1] at this
    exact this
  clear h1
  have k4 : X3.cell? ⟨k, 4, none⟩ = some (.int .i64 0) := by
    have := Box.cell (HX3.out.2.2.1) 4 rfl
    rw [h2] at this
    exact this
  clear h2
  go_wp2_with (first | (refine wpC_loadG (by rfl) isC48 rfl rfl (HX3.out.2.2.1) ?_) | fail)
  refine (c1 _ (HX3.out.1)).mono ?_
  rintro e w4 ⟨rfl, hB⟩
  have HX4 : Hid (Below w.heap.size w w4 ∧ Box w4 p 26 (ccL c) ∧ Box w4 k 48 (ccL c) ∧ w.heap.size ≤ p ∧ p < k ∧ True) := by
    obtain ⟨hb, b0, b1, l0, l1, _⟩ := HX3.out
    exact ⟨Below.on hb hB, b0.later hB, b1.later hB, l0, l1, trivial⟩
  clear hB HX3
  go_wp2_with fail
  go_ret
  exact ⟨rfl, HX4.out.1⟩

set_option maxRecDepth 100000 in
set_option maxHeartbeats 4000000 in
theorem chk8_r (w : World) (c : Cc) (h0 : c.kd = 3) (h1 : c.ss = 1073741824) (h2 : c.ac = 0) (c1 : ∀ W, Below w.heap.size w W → Calls Tryd.prog 42 #[ccv c] W fun e w' => e = .returned (.bool true) ∧ Below W.heap.size W w') (c2 : ∀ W, Below w.heap.size w W → Calls Tryd.prog 43 #[ccv c] W fun e w' => e = .returned (.bool false) ∧ Below W.heap.size W w')  : Calls Tryd.prog 11 #[ccv c] w fun e w' => e = .returned (.int .i64 230) ∧ Below w.heap.size w w' := by
  go_enter Tryd.func11, Tryd.ntmps11
  go_wp2_with (first | (refine wpC_box rfl rfl rfl ?_))
  intro X1 p HN
  have HX1 : Hid (Below w.heap.size w X1 ∧ Box X1 p 26 (ccL c) ∧ w.heap.size ≤ p ∧ True) := by
    have hb := Below.refl w.heap.size w
    obtain ⟨hg, hb2, bn⟩ := HN.out
    have hz := hb.size
    exact ⟨Below.on hb hb2, bn, by omega, trivial⟩
  clear HN 
  go_wp2_with (first | (refine wpC_load rfl isC26 rfl rfl (HX1.out.2.1) ?_) | (refine wpC_build1 rfl rfl rfl (built48C _) ?_) | (refine wpC_alloc rfl rfl zero48 ?_))
  intro X2 k HN
  have HX2 : Hid (Below w.heap.size w X2 ∧ Box X2 p 26 (ccL c) ∧ Box X2 k 48 (ccL zC) ∧ w.heap.size ≤ p ∧ p < k ∧ True) := by
    obtain ⟨hb, b0, l0, _⟩ := HX1.out
    obtain ⟨hg, hb2, bn⟩ := HN.out
    have z0 := b0.lt
    exact ⟨Below.on hb hb2, b0.later hb2, bn, l0, by omega, trivial⟩
  clear HN HX1
  go_wp2_with (first | (refine wpC_store rfl isC48 rfl rfl rfl rfl (HX2.out.2.2.1) rfl ?_))
  intro X3 HN
  have HX3 : Hid (Below w.heap.size w X3 ∧ Box X3 p 26 (ccL c) ∧ Box X3 k 48 (ccL c) ∧ w.heap.size ≤ p ∧ p < k ∧ True) := by
    obtain ⟨hb, b0, b1, l0, l1, _⟩ := HX2.out
    obtain ⟨st, bn⟩ := HN.out
    exact ⟨st.below _ _ (by omega) hb, b0.sto st (by omega), bn, l0, l1, trivial⟩
  clear HN HX2
  have k0 : X3.cell? ⟨k, 0, none⟩ = some (.int .i64 3) := by
    have := Box.cell (HX3.out.2.2.1) 0 rfl
    rw [h0] at this
    exact this
  clear h0
  have k3 : X3.cell? ⟨k, 3, none⟩ = some (.int .i64 1073741824) := by
    have := Box.cell (HX3.out.2.2.1) 3 rfl
    rw [h1] at this
    exact this
  clear h1
  have k4 : X3.cell? ⟨k, 4, none⟩ = some (.int .i64 0) := by
    have := Box.cell (HX3.out.2.2.1) 4 rfl
    rw [h2] at this
    exact this
  clear h2
  go_wp2_with (first | (refine wpC_loadG (by rfl) isC48 rfl rfl (HX3.out.2.2.1) ?_) | fail)
  refine (c1 _ (HX3.out.1)).mono ?_
  rintro e w4 ⟨rfl, hB⟩
  have HX4 : Hid (Below w.heap.size w w4 ∧ Box w4 p 26 (ccL c) ∧ Box w4 k 48 (ccL c) ∧ w.heap.size ≤ p ∧ p < k ∧ True) := by
    obtain ⟨hb, b0, b1, l0, l1, _⟩ := HX3.out
    exact ⟨Below.on hb hB, b0.later hB, b1.later hB, l0, l1, trivial⟩
  clear hB HX3
  go_wp2_with (first | (refine wpC_loadG (by rfl) isC48 rfl rfl (HX4.out.2.2.1) ?_) | fail)
  refine (c2 _ (HX4.out.1)).mono ?_
  rintro e w5 ⟨rfl, hB⟩
  have HX5 : Hid (Below w.heap.size w w5 ∧ Box w5 p 26 (ccL c) ∧ Box w5 k 48 (ccL c) ∧ w.heap.size ≤ p ∧ p < k ∧ True) := by
    obtain ⟨hb, b0, b1, l0, l1, _⟩ := HX4.out
    exact ⟨Below.on hb hB, b0.later hB, b1.later hB, l0, l1, trivial⟩
  clear hB HX4
  go_wp2_with fail
  go_ret
  exact ⟨rfl, HX5.out.1⟩

set_option maxRecDepth 100000 in
set_option maxHeartbeats 4000000 in
theorem chk8_y (w : World) (c : Cc) (r : Int) (h0 : c.kd = 3) (h1 : c.ss = 1073741824) (h2 : c.ac = 0) (c1 : ∀ W, Below w.heap.size w W → Calls Tryd.prog 42 #[ccv c] W fun e w' => e = .returned (.bool true) ∧ Below W.heap.size W w') (c2 : ∀ W, Below w.heap.size w W → Calls Tryd.prog 43 #[ccv c] W fun e w' => e = .returned (.bool true) ∧ Below W.heap.size W w') (c3 : ∀ W, Below w.heap.size w W → Calls Tryd.prog 45 #[ccv c] W fun e w' => e = .returned (ccv (asR c)) ∧ Below W.heap.size W w') (c4 : ∀ W, Below w.heap.size w W → Calls Tryd.prog 44 #[ccv (asR c)] W fun e w' => e = .returned (.int .i64 r) ∧ Below W.heap.size W w')  : Calls Tryd.prog 11 #[ccv c] w fun e w' => e = .returned (.int .i64 r) ∧ Below w.heap.size w w' := by
  go_enter Tryd.func11, Tryd.ntmps11
  go_wp2_with (first | (refine wpC_box rfl rfl rfl ?_))
  intro X1 p HN
  have HX1 : Hid (Below w.heap.size w X1 ∧ Box X1 p 26 (ccL c) ∧ w.heap.size ≤ p ∧ True) := by
    have hb := Below.refl w.heap.size w
    obtain ⟨hg, hb2, bn⟩ := HN.out
    have hz := hb.size
    exact ⟨Below.on hb hb2, bn, by omega, trivial⟩
  clear HN 
  go_wp2_with (first | (refine wpC_load rfl isC26 rfl rfl (HX1.out.2.1) ?_) | (refine wpC_build1 rfl rfl rfl (built48C _) ?_) | (refine wpC_alloc rfl rfl zero48 ?_))
  intro X2 k HN
  have HX2 : Hid (Below w.heap.size w X2 ∧ Box X2 p 26 (ccL c) ∧ Box X2 k 48 (ccL zC) ∧ w.heap.size ≤ p ∧ p < k ∧ True) := by
    obtain ⟨hb, b0, l0, _⟩ := HX1.out
    obtain ⟨hg, hb2, bn⟩ := HN.out
    have z0 := b0.lt
    exact ⟨Below.on hb hb2, b0.later hb2, bn, l0, by omega, trivial⟩
  clear HN HX1
  go_wp2_with (first | (refine wpC_store rfl isC48 rfl rfl rfl rfl (HX2.out.2.2.1) rfl ?_))
  intro X3 HN
  have HX3 : Hid (Below w.heap.size w X3 ∧ Box X3 p 26 (ccL c) ∧ Box X3 k 48 (ccL c) ∧ w.heap.size ≤ p ∧ p < k ∧ True) := by
    obtain ⟨hb, b0, b1, l0, l1, _⟩ := HX2.out
    obtain ⟨st, bn⟩ := HN.out
    exact ⟨st.below _ _ (by omega) hb, b0.sto st (by omega), bn, l0, l1, trivial⟩
  clear HN HX2
  have k0 : X3.cell? ⟨k, 0, none⟩ = some (.int .i64 3) := by
    have := Box.cell (HX3.out.2.2.1) 0 rfl
    rw [h0] at this
    exact this
  clear h0
  have k3 : X3.cell? ⟨k, 3, none⟩ = some (.int .i64 1073741824) := by
    have := Box.cell (HX3.out.2.2.1) 3 rfl
    rw [h1] at this
    exact this
  clear h1
  have k4 : X3.cell? ⟨k, 4, none⟩ = some (.int .i64 0) := by
    have := Box.cell (HX3.out.2.2.1) 4 rfl
    rw [h2] at this
    exact this
  clear h2
  go_wp2_with (first | (refine wpC_loadG (by rfl) isC48 rfl rfl (HX3.out.2.2.1) ?_) | fail)
  refine (c1 _ (HX3.out.1)).mono ?_
  rintro e w4 ⟨rfl, hB⟩
  have HX4 : Hid (Below w.heap.size w w4 ∧ Box w4 p 26 (ccL c) ∧ Box w4 k 48 (ccL c) ∧ w.heap.size ≤ p ∧ p < k ∧ True) := by
    obtain ⟨hb, b0, b1, l0, l1, _⟩ := HX3.out
    exact ⟨Below.on hb hB, b0.later hB, b1.later hB, l0, l1, trivial⟩
  clear hB HX3
  go_wp2_with (first | (refine wpC_loadG (by rfl) isC48 rfl rfl (HX4.out.2.2.1) ?_) | fail)
  refine (c2 _ (HX4.out.1)).mono ?_
  rintro e w5 ⟨rfl, hB⟩
  have HX5 : Hid (Below w.heap.size w w5 ∧ Box w5 p 26 (ccL c) ∧ Box w5 k 48 (ccL c) ∧ w.heap.size ≤ p ∧ p < k ∧ True) := by
    obtain ⟨hb, b0, b1, l0, l1, _⟩ := HX4.out
    exact ⟨Below.on hb hB, b0.later hB, b1.later hB, l0, l1, trivial⟩
  clear hB HX4
  go_wp2_with (first | (refine wpC_load rfl isC48 rfl rfl (HX5.out.2.2.1) ?_) | fail)
  refine (c3 _ (HX5.out.1)).mono ?_
  rintro e w6 ⟨rfl, hB⟩
  have HX6 : Hid (Below w.heap.size w w6 ∧ Box w6 p 26 (ccL c) ∧ Box w6 k 48 (ccL c) ∧ w.heap.size ≤ p ∧ p < k ∧ True) := by
    obtain ⟨hb, b0, b1, l0, l1, _⟩ := HX5.out
    exact ⟨Below.on hb hB, b0.later hB, b1.later hB, l0, l1, trivial⟩
  clear hB HX5
  go_wp2_with fail
  refine (c4 _ (HX6.out.1)).mono ?_
  rintro e w7 ⟨rfl, hB⟩
  have HX7 : Hid (Below w.heap.size w w7 ∧ Box w7 p 26 (ccL c) ∧ Box w7 k 48 (ccL c) ∧ w.heap.size ≤ p ∧ p < k ∧ True) := by
    obtain ⟨hb, b0, b1, l0, l1, _⟩ := HX6.out
    exact ⟨Below.on hb hB, b0.later hB, b1.later hB, l0, l1, trivial⟩
  clear hB HX6
  go_wp2_with fail
  go_ret
  exact ⟨rfl, HX7.out.1⟩

theorem cci_asr {c : Cc} (h : CcI c) : CcI (asR c) := ⟨by show I64 1; unfold I64; omega, h.ms, h.cw, h.ss, h.ac, h.wm, h.ep, h.ck, h.we, h.st, i64_0, i64_0, i64_0, i64_0, i64_0, i64_0, i64_0, i64_0, i64_0, i64_0, i64_0, Nat.zero_le _⟩
theorem chk8_is (c : Cc) (es : List Tm) (hI : CcI c) (hn : es.length = c.bn) (w : World) (hT : TimsAt w c.ba es) : Calls Tryd.prog 11 #[ccv c] w fun e w' => e = .returned (.int .i64 (chkE c es)) ∧ Below w.heap.size w w' := by
  unfold chkE okC
  by_cases h0 : c.kd = 3
  case neg => rw [if_neg (by simp [h0])]; exact chk8_0 w c (by simpa using h0) h0
  by_cases h1 : c.ss = 1073741824
  case neg => rw [if_neg (by simp [h1])]; exact chk8_1 w c h0 (by simpa using h1) h1
  by_cases h2 : c.ac = 0
  case neg => rw [if_neg (by simp [h2])]; exact chk8_2 w c h0 h1 (by simpa using h2) h2
  cases h3 : fit8 c with
  | false => rw [if_neg (by simp)]; exact chk8_f w c h0 h1 h2 (fun W _ => fit8_is c h3 W)
  | true =>
    cases h4 : rat8 c es with
    | false => rw [if_neg (by simp)]; exact chk8_r w c h0 h1 h2 (fun W _ => fit8_is c h3 W) (fun W hW => rat8_is c es h4 hn W (hT.below hW (Nat.le_refl _)))
    | true =>
      cases h5 : okB (asR c) with
      | false => rw [if_neg (by simp)]; exact chk8_y w c _ h0 h1 h2 (fun W _ => fit8_is c h3 W) (fun W hW => rat8_is c es h4 hn W (hT.below hW (Nat.le_refl _))) (fun W _ => asr_is c W) (fun W _ => chk_no (asR c) (cci_asr hI) h5 W)
      | true => rw [if_pos (by simp [h0, h1, h2])]; exact chk8_y w c _ h0 h1 h2 (fun W _ => fit8_is c h3 W) (fun W hW => rat8_is c es h4 hn W (hT.below hW (Nat.le_refl _))) (fun W _ => asr_is c W) (fun W _ => chk_yes (asR c) h5 W)
theorem chk8_ok (c : Cc) (es : List Tm) (hI : CcI c) (hn : es.length = c.bn) (k : okC c es = true) (w : World) (hT : TimsAt w c.ba es) : Calls Tryd.prog 11 #[ccv c] w fun e w' => e = .returned (.int .i64 0) ∧ Below w.heap.size w w' := by
  have := chk8_is c es hI hn w hT
  unfold chkE at this
  rw [if_pos k] at this
  exact this
theorem chk8_no (c : Cc) (es : List Tm) (hI : CcI c) (hn : es.length = c.bn) (k : okC c es = false) (w : World) (hT : TimsAt w c.ba es) : Calls Tryd.prog 11 #[ccv c] w fun e w' => e = .returned (.int .i64 230) ∧ Below w.heap.size w w' := by
  have := chk8_is c es hI hn w hT
  unfold chkE at this
  rw [if_neg (by rw [k]; simp)] at this
  exact this
/-- What a controller that may be is, in numbers. -/
structure Ok8 (c : Cc) : Prop where
  kd : c.kd = 3
  ss : c.ss = 1073741824
  ac : c.ac = 0
  md : 1 ≤ c.md ∧ c.md ≤ 4
  mr : 0 ≤ c.mr ∧ c.mr ≤ 1125899906842624
  ma : 0 ≤ c.ma ∧ c.ma ≤ 1125899906842624
  rd : 0 ≤ c.rd ∧ c.rd ≤ 1125899906842624
  na : 0 ≤ c.na ∧ c.na ≤ 1125899906842624
  fu : 0 ≤ c.fu ∧ c.fu ≤ 1099511627776
  fc : 0 ≤ c.fc ∧ c.fc ≤ 3
  ph : 0 ≤ c.ph ∧ c.ph < 8
  pa : 0 ≤ c.pa ∧ c.pa ≤ 1125899906842624
  da : 0 ≤ c.da ∧ c.da ≤ 1125899906842624
  pr : 0 ≤ c.pr ∧ c.pr ≤ 1073741824
  ms : 1 ≤ c.ms ∧ c.ms ≤ 65000
  cw : c.ms ≤ c.cw ∧ c.cw ≤ 1073741824
  wm : c.wm = 0
  ep : c.ep = 0
  ck : c.ck = 0
  we : c.we = 0
  st : c.st = 0
theorem okB_asr (c : Cc) : okB (asR c) = decide ((1 ≤ c.ms ∧ c.ms ≤ 65000) ∧ (c.ms ≤ c.cw ∧ c.cw ≤ 1073741824) ∧ (2 * c.ms ≤ c.ss ∧ c.ss ≤ 1073741824) ∧ (0 ≤ c.ac ∧ c.ac ≤ 1073741824) ∧ c.wm = 0 ∧ c.ep = 0 ∧ c.ck = 0 ∧ c.we = 0 ∧ c.st = 0) := by
  rw [Bool.eq_iff_iff]
  unfold okB fitB zerB asR
  simp only [Bool.and_eq_true, decide_eq_true_eq]
  constructor
  · rintro ⟨⟨_, h1⟩, h2⟩
    obtain ⟨a1, a2, a3, a4, a5, _⟩ := h2
    exact ⟨by omega, by omega, by omega, by omega, a1, a2, a3, a4, a5⟩
  · rintro ⟨h1, h2, h3, h4, a1, a2, a3, a4, a5⟩
    exact ⟨⟨trivial, by omega⟩, a1, a2, a3, a4, a5, by and_intros <;> first | trivial | rfl⟩
theorem ok8_out {c : Cc} {es : List Tm} (k : okC c es = true) : Ok8 c ∧ rat8 c es = true := by
  unfold okC at k
  rw [okB_asr] at k
  simp only [Bool.and_eq_true, decide_eq_true_eq] at k
  obtain ⟨h0, h1, h2, h3, h4, h5, h6, h7, h8, a1, a2, a3, a4, a5⟩ := k
  have h3 := of_decide_eq_true h3
  obtain ⟨b1, b2, b3, b4, b5, b6, b7, b8, b9, b10, b11, b12, b13, b14, b15⟩ := h3
  exact ⟨⟨h0, h1, h2, b1, b2, b3, b4, b5, ⟨b6, b7⟩, ⟨b8, b9⟩, ⟨b10, b11⟩, b12, b13, ⟨b14, b15⟩, h5, h6, a1, a2, a3, a4, a5⟩, h4⟩
theorem ok8_in {c : Cc} {es : List Tm} (h : Ok8 c) (hr : rat8 c es = true) : okC c es = true := by
  obtain ⟨h0, h1, h2, b1, b2, b3, b4, b5, b6, b7, b8, b9, b10, b11, m1, m2, a1, a2, a3, a4, a5⟩ := h
  unfold okC
  rw [okB_asr]
  simp only [Bool.and_eq_true, decide_eq_true_eq]
  exact ⟨h0, h1, h2, decide_eq_true ⟨b1, b2, b3, b4, b5, b6.1, b6.2, b7.1, b7.2, b8.1, b8.2, b9, b10, b11.1, b11.2⟩, hr, m1, m2, by omega, by omega, a1, a2, a3, a4, a5⟩
end Go.Proofs.YtagmighcofllhaaDoor
