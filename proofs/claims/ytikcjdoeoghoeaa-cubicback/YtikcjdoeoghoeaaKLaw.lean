/- What follows: the window does not fall, the curve neither. -/
import Derived.Test.YtikcjdoeoghoeaaKGro
namespace Go.Proofs.Ytikcjdoeoghoeaa
open Go.ChangeShapes Go.WideShapes Go.ChangeAt Go.RowKit
set_option linter.unusedVariables false


theorem md_mono {a a' b c : Int} (h : a ≤ a') (h0 : 0 ≤ a) (hb : 0 ≤ b) (hc : 1 ≤ c) : mulDivI a b c ≤ mulDivI a' b c := by
  have h1 : a * b ≤ a' * b := Int.mul_le_mul_of_nonneg_right h hb
  have h2 : a * b / c ≤ a' * b / c := Int.ediv_le_ediv (by omega) h1
  unfold mulDivI
  rw [if_neg (show ¬ (a < 0 ∨ b < 0 ∨ c ≤ 0) by omega), if_neg (show ¬ (a' < 0 ∨ b < 0 ∨ c ≤ 0) by omega)]
  split <;> split <;> omega
theorem clamp_mono {x y l h : Int} (hxy : x ≤ y) : clampI x l h ≤ clampI y l h := by
  unfold clampI
  split <;> split <;> (try split) <;> (try split) <;> (try split) <;> (try split) <;> omega
theorem sum_mono {x y b : Int} (h : x ≤ y) : sumI x b ≤ sumI y b := by
  unfold sumI
  split <;> split <;> (try split) <;> (try split) <;> omega
theorem curD_mono {k t t' : Int} (h : t ≤ t') : curD k t ≤ curD k t' := clamp_mono (sum_mono h)
theorem curV_mono {a a' m : Int} (h0 : 0 ≤ a) (h : a ≤ a') (hm : 1 ≤ m ∧ m ≤ 65000) : curV a m ≤ curV a' m := by
  unfold curV
  exact md_mono (cube_mono h0 h) (Int.mul_nonneg (Int.mul_nonneg h0 h0) h0) (by omega) (by omega)
theorem cur_mono {m wm k t t' : Int} (h : t ≤ t') (hm : 1 ≤ m ∧ m ≤ 65000) : curI m wm k t ≤ curI m wm k t' := by
  unfold curI
  have hd := curD_mono (k := k) h
  have b1 := curD_bd k t
  have b2 := curD_bd k t'
  generalize curD k t = d at hd b1 ⊢
  generalize curD k t' = d' at hd b2 ⊢
  have a1 := curA_bd b1
  have a2 := curA_bd b2
  have v1 := curV_bd a1.1 a1.2 hm
  have v2 := curV_bd a2.1 a2.2 hm
  unfold curW
  apply clamp_mono
  by_cases h1 : d < 0
  · rw [if_pos h1]
    by_cases h2 : d' < 0
    · rw [if_pos h2]
      have := curV_mono (a := curA d') (a' := curA d) (m := m) a2.1 (by unfold curA; omega) hm
      omega
    · rw [if_neg h2]; omega
  · rw [if_neg h1, if_neg (by omega)]
    have := curV_mono (a := curA d) (a' := curA d') (m := m) a1.1 (by unfold curA; omega) hm
    omega
theorem cur_at {m wm k : Int} (hk : 0 ≤ k ∧ k ≤ 2097151) (hw : 0 ≤ wm ∧ wm ≤ 1073741824) (hm : 1 ≤ m ∧ m ≤ 65000) : curI m wm k k = wm := by
  have hd : curD k k = 0 := by
    unfold curD sumI
    rw [if_neg (by omega), if_neg (by omega), show k + -k = 0 by omega]
    decide
  unfold curI
  rw [hd]
  have hv : curV (curA 0) m = 0 := by
    unfold curV
    rw [show curA 0 = 0 from by decide]
    unfold mulDivI
    rw [if_neg (by omega)]
    simp
  rw [hv]
  unfold curW clampI
  rw [if_neg (by omega), if_neg (by omega), if_neg (by omega), if_neg (by omega)]
  omega
theorem cur_bd (m wm k t : Int) : 0 ≤ curI m wm k t ∧ curI m wm k t ≤ 1073741824 := by
  unfold curI curW
  exact clamp_in (by omega)
/-- An acknowledgement does not lower the window, and what may be stays so. -/
theorem stp_ok {d : Cc} {n t : Int} (k : kOk d = true) (hn : 0 ≤ n ∧ n ≤ 1073741824) : kOk (stpE d n t) = true ∧ d.cw ≤ (stpE d n t).cw := by
  obtain ⟨h1, h2, h3, h4⟩ := kok_out k
  have hr := ris_bd (t := t) k hn
  have hf := fri_bd k hn
  have h2' := h2
  have h3' := h3
  unfold CubK at h2'
  unfold ComK at h3'
  have hw : 0 ≤ wesI d n ∧ wesI d n ≤ 1073741824 := by unfold wesI; omega
  have hc : d.cw ≤ min (max (d.cw + risI d n t) (wesI d n)) 1073741824 ∧ min (max (d.cw + risI d n t) (wesI d n)) 1073741824 ≤ 1073741824 := by omega
  refine ⟨kok_in ⟨h1, ?_, ?_, h4⟩, hc.1⟩
  · exact ⟨h2.1, hw, h2.2.2⟩
  · exact ⟨h3.1, ⟨by show d.ms ≤ min (max (d.cw + risI d n t) (wesI d n)) 1073741824; omega, hc.2⟩, h3.2.2⟩
theorem kack_ok {c : Cc} {n now srtt : Int} (k : kOk c = true) (hn : 0 ≤ n ∧ n ≤ 1073741824) (ht : 0 ≤ now ∧ now ≤ 1125899906842624) : kOk (ackK c n now srtt false) = true ∧ c.cw ≤ (ackK c n now srtt false).cw := by
  unfold ackK
  rw [if_neg (by simp)]
  by_cases hs : c.cw < c.ss
  · rw [if_pos hs]
    obtain ⟨h1, h2, h3, h4⟩ := kok_out k
    have h3' := h3
    unfold ComK at h3'
    have hc : c.cw ≤ min (c.cw + min n c.ms) 1073741824 ∧ min (c.cw + min n c.ms) 1073741824 ≤ 1073741824 := by omega
    exact ⟨kok_in ⟨h1, h2, ⟨h3.1, ⟨by show c.ms ≤ min (c.cw + min n c.ms) 1073741824; omega, hc.2⟩, h3.2.2⟩, h4⟩, hc.1⟩
  · rw [if_neg hs]
    unfold groE
    have := stp_ok (t := timI (epoE c now).ep now srtt) (epo_ok k ht) hn
    rw [(epo_cw c now).1] at this
    exact this
/-- With a window acknowledged at most, as an epoch begins: by half, and by a segment. -/
theorem ack_half {c : Cc} {n now srtt : Int} (k : kOk c = true) (hn : 0 ≤ n ∧ n ≤ c.cw) (ht : 0 ≤ now ∧ now ≤ 1125899906842624) (hs : c.ss ≤ c.cw) (he : c.ep = -1) : (ackK c n now srtt false).cw ≤ c.cw + c.cw / 2 + c.ms := by
  unfold ackK
  rw [if_neg (by simp), if_neg (by omega)]
  unfold groE
  have kd := epo_ok k ht
  have hcw := epo_cw c now
  have hwe : (epoE c now).we = c.cw := by unfold epoE begE; rw [if_pos he]; split <;> rfl
  generalize timI (epoE c now).ep now srtt = t
  generalize epoE c now = d at kd hcw hwe ⊢
  obtain ⟨_, _, h3, _⟩ := kok_out kd
  unfold ComK at h3
  have ha := aim_bd d t (by omega)
  have hr : risI d n t ≤ d.cw / 2 := by
    unfold risI
    have h1 : mulDivI (aimI d t - d.cw) n d.cw ≤ aimI d t - d.cw := by
      unfold mulDivI
      rw [if_neg (by omega)]
      have h2 : (aimI d t - d.cw) * n ≤ (aimI d t - d.cw) * d.cw := Int.mul_le_mul_of_nonneg_left (by omega) (by omega)
      have h4 : (aimI d t - d.cw) * n / d.cw ≤ aimI d t - d.cw := Int.ediv_le_of_le_mul (by omega) h2
      split <;> omega
    omega
  have hf : mulDivI (529 * d.ms) n (1000 * d.cw) ≤ d.ms := by
    unfold mulDivI
    rw [if_neg (by omega)]
    have h2 : 529 * d.ms * n ≤ 529 * d.ms * d.cw := Int.mul_le_mul_of_nonneg_left (by omega) (by omega)
    have h5 : 529 * d.ms * d.cw ≤ d.ms * (1000 * d.cw) := by
      have := Int.mul_nonneg (a := d.ms) (b := d.cw) (by omega) (by omega)
      have e1 : 529 * d.ms * d.cw = 529 * (d.ms * d.cw) := Int.mul_assoc ..
      have e2 : d.ms * (1000 * d.cw) = 1000 * (d.ms * d.cw) := Int.mul_left_comm ..
      omega
    have h4 : 529 * d.ms * n / (1000 * d.cw) ≤ d.ms := Int.ediv_le_of_le_mul (by omega) (by omega)
    split <;> omega
  show min (max (d.cw + risI d n t) (wesI d n)) 1073741824 ≤ _
  unfold wesI
  omega
end Go.Proofs.Ytikcjdoeoghoeaa
