/- The contract of grow. -/
import Derived.Test.YtikcjdoeoghoeaaKGrow
namespace Go.Proofs.Ytikcjdoeoghoeaa
open Go.ChangeShapes Go.WideShapes Go.ChangeAt Go.RowKit
set_option linter.unusedVariables false


theorem md_le {a b c : Int} (ha : 0 ≤ a) (hac : a ≤ c) (hb : 0 ≤ b) (hb2 : b ≤ 9223372036854775807) (hc : 1 ≤ c) : 0 ≤ mulDivI a b c ∧ mulDivI a b c ≤ b := by
  have h0 := (md_bd ha hb hc).1
  refine ⟨h0, ?_⟩
  unfold mulDivI
  rw [if_neg (by omega)]
  have h1 : a * b ≤ c * b := Int.mul_le_mul_of_nonneg_right hac hb
  have h2 : a * b / c ≤ b := Int.ediv_le_of_le_mul (by omega) (by rw [Int.mul_comm b c]; exact h1)
  split <;> omega
theorem epo_ok {c : Cc} {now : Int} (k : kOk c = true) (hn : 0 ≤ now ∧ now ≤ 1125899906842624) : kOk (epoE c now) = true := by
  unfold epoE
  split
  · obtain ⟨h1, h2, h3, h4⟩ := kok_out k
    have hk := begK_bd c
    have h4' := h4
    unfold BbrK at h4'
    unfold begE
    split
    · refine kok_in ⟨h1, ?_, h3, h4⟩
      unfold CubK at h2 ⊢
      unfold ComK at h3
      show (0 ≤ c.wm ∧ c.wm ≤ 1073741824) ∧ (0 ≤ c.cw ∧ c.cw ≤ 1073741824) ∧ (0 ≤ c.cw ∧ c.cw ≤ 1073741824) ∧ (0 ≤ begK c ∧ begK c ≤ 2097151) ∧ -1 ≤ now ∧ now ≤ 1125899906842624
      omega
    · refine kok_in ⟨h1, ?_, h3, h4⟩
      unfold CubK at h2 ⊢
      unfold ComK at h3
      show (0 ≤ c.cw ∧ c.cw ≤ 1073741824) ∧ (0 ≤ c.cw ∧ c.cw ≤ 1073741824) ∧ (0 ≤ c.cw ∧ c.cw ≤ 1073741824) ∧ ((0 : Int) ≤ 0 ∧ (0 : Int) ≤ 2097151) ∧ -1 ≤ now ∧ now ≤ 1125899906842624
      omega
  · exact k
theorem epo_cw (c : Cc) (now : Int) : (epoE c now).cw = c.cw ∧ (epoE c now).ms = c.ms ∧ (epoE c now).ss = c.ss := by
  unfold epoE begE
  split
  · split <;> exact ⟨rfl, rfl, rfl⟩
  · exact ⟨rfl, rfl, rfl⟩
theorem aim_bd (d : Cc) (t : Int) (h : 0 ≤ d.cw) : d.cw ≤ aimI d t ∧ aimI d t ≤ d.cw + d.cw / 2 := clamp_in (by omega)
theorem ris_bd {d : Cc} {n t : Int} (k : kOk d = true) (hn : 0 ≤ n ∧ n ≤ 1073741824) : 0 ≤ risI d n t ∧ risI d n t ≤ n := by
  obtain ⟨_, _, h3, _⟩ := kok_out k
  unfold ComK at h3
  have ha := aim_bd d t (by omega)
  unfold risI
  exact md_le (by omega) (by omega) hn.1 (by omega) (by omega)
theorem fri_bd {d : Cc} {n : Int} (k : kOk d = true) (hn : 0 ≤ n ∧ n ≤ 1073741824) : 0 ≤ mulDivI (529 * d.ms) n (1000 * d.cw) ∧ mulDivI (529 * d.ms) n (1000 * d.cw) ≤ n := by
  obtain ⟨_, _, h3, _⟩ := kok_out k
  unfold ComK at h3
  exact md_le (by omega) (by omega) hn.1 (by omega) (by omega)
theorem tim_bd {ep now srtt : Int} (he : -1 ≤ ep ∧ ep ≤ 1125899906842624) (hn : 0 ≤ now ∧ now ≤ 1125899906842624) (hs : 0 ≤ srtt ∧ srtt ≤ 1125899906842624) : 0 ≤ timI ep now srtt ∧ timI ep now srtt ≤ 1125899906842624 := by unfold timI; omega
theorem kgro_is (c : Cc) (g : Nat) (n now srtt : Int) (k : kOk c = true) (kn : 0 ≤ n ∧ n ≤ 1073741824) (kt : 0 ≤ now ∧ now ≤ 1125899906842624) (ks : 0 ≤ srtt ∧ srtt ≤ 1125899906842624) (w : World) (hb : Box w g 48 (ccL c)) :
    Calls Try.prog 27 #[.pointer (some ⟨g, 0, none⟩), .int .i64 n, .int .i64 now, .int .i64 srtt] w fun e w' => e = .returned (.tuple #[]) ∧ Chg w g w' ∧ Box w' g 48 (ccL (groE c n now srtt)) := by
  have kd := epo_ok (now := now) k kt
  obtain ⟨_, g2, g3, _⟩ := kok_out k
  unfold CubK at g2
  unfold ComK at g3
  have kb : c.ep = -1 → ∀ W, Box W g 48 (ccL c) → Calls Try.prog 50 #[.pointer (some ⟨g, 0, none⟩), .int .i64 now] W fun e w' => e = .returned (.tuple #[]) ∧ Chg W g w' ∧ Box w' g 48 (ccL (epoE c now)) := fun he W hW => by
    unfold epoE
    rw [if_pos he]
    exact kbeg_is c g now g3.1 (by omega) g2.1 W hW
  unfold groE
  have hdc : ¬ c.ep = -1 → epoE c now = c := fun h => by unfold epoE; rw [if_neg h]
  obtain ⟨d, hd⟩ : ∃ d, epoE c now = d := ⟨_, rfl⟩
  rw [hd] at kd kb hdc ⊢
  obtain ⟨_, h2, h3, _⟩ := kok_out kd
  unfold CubK at h2
  unfold ComK at h3
  have ht := tim_bd (ep := d.ep) (by omega) kt ks
  obtain ⟨t, het⟩ : ∃ t, timI d.ep now srtt = t := ⟨_, rfl⟩
  rw [het] at ht ⊢
  have ha := aim_bd d t (by omega)
  have hr := ris_bd (t := t) kd kn
  have hf := fri_bd kd kn
  have c4 := fun W => cur_is d t (kok_cci kd) (by unfold I64; omega) W
  unfold curR at c4
  rw [if_pos kd] at c4
  have hh : d.cw.tdiv 2 = d.cw / 2 := Int.tdiv_eq_ediv_of_nonneg (by omega)
  have c5 : ∀ W, Calls Try.prog 39 #[.int .i64 (curI d.ms d.wm d.ck t), .int .i64 d.cw, .int .i64 (d.cw + d.cw / 2)] W fun e w' => e = .returned (.int .i64 (aimI d t)) ∧ w' = W := fun W => clamp_walk _ _ _ W
  have c6 : ∀ W, Calls Try.prog 41 #[.int .i64 (aimI d t - d.cw), .int .i64 n, .int .i64 d.cw] W fun e w' => e = .returned (.int .i64 (risI d n t)) ∧ ∃ n, w' = W.drewN n := fun W => share_is _ _ _ _ rfl (by unfold I64; omega) (by unfold I64; omega) (by unfold I64; omega) W
  have c7 := fun W => share_is (529 * d.ms) n (1000 * d.cw) _ rfl (by unfold I64; omega) (by unfold I64; omega) (by unfold I64; omega) W
  have hw : (if 1073741824 < d.we + mulDivI (529 * d.ms) n (1000 * d.cw) then 1073741824 else d.we + mulDivI (529 * d.ms) n (1000 * d.cw)) = wesI d n := by unfold wesI; split <;> omega
  have hwb : 0 ≤ wesI d n ∧ wesI d n ≤ 1073741824 := by unfold wesI; omega
  have hmx : (if d.cw + risI d n t < wesI d n then wesI d n else d.cw + risI d n t) = max (d.cw + risI d n t) (wesI d n) := by split <;> omega
  have hc2 : (if 1073741824 < max (d.cw + risI d n t) (wesI d n) then 1073741824 else max (d.cw + risI d n t) (wesI d n)) = min (max (d.cw + risI d n t) (wesI d n)) 1073741824 := by split <;> omega
  unfold stpE
  by_cases he : c.ep = -1
  · by_cases hl : now < d.ep
    · exact kgro_yl c g n now srtt d he (kb he) t _ _ _ _ _ _ _ _ _ _ _ _ _ rfl rfl rfl rfl kn kt ks h3.1 (by omega) h2.2.1 h2.2.2.2.2 hl (by rw [Int.tdiv_eq_ediv_of_nonneg ks.1, ← het]; unfold timI; omega) hh (by omega) ht ha (by omega) (by omega) rfl hw hwb _ rfl hmx hc2 c4 c5 c6 c7 w hb
    · exact kgro_yg c g n now srtt d he (kb he) t _ _ _ _ _ _ _ _ _ _ _ _ _ rfl rfl rfl rfl kn kt ks h3.1 (by omega) h2.2.1 h2.2.2.2.2 (by omega) (by rw [Int.tdiv_eq_ediv_of_nonneg (by omega), ← het]; unfold timI; omega) hh (by omega) ht ha (by omega) (by omega) rfl hw hwb _ rfl hmx hc2 c4 c5 c6 c7 w hb
  · have e := hdc he
    subst e
    by_cases hl : now < d.ep
    · exact kgro_nl d g n now srtt he t _ _ _ _ _ _ _ _ _ _ _ _ _ rfl rfl rfl rfl kn kt ks h3.1 (by omega) h2.2.1 h2.2.2.2.2 hl (by rw [Int.tdiv_eq_ediv_of_nonneg ks.1, ← het]; unfold timI; omega) hh (by omega) ht ha (by omega) (by omega) rfl hw hwb _ rfl hmx hc2 c4 c5 c6 c7 w hb
    · exact kgro_ng d g n now srtt he t _ _ _ _ _ _ _ _ _ _ _ _ _ rfl rfl rfl rfl kn kt ks h3.1 (by omega) h2.2.1 h2.2.2.2.2 (by omega) (by rw [Int.tdiv_eq_ediv_of_nonneg (by omega), ← het]; unfold timI; omega) hh (by omega) ht ha (by omega) (by omega) rfl hw hwb _ rfl hmx hc2 c4 c5 c6 c7 w hb
end Go.Proofs.Ytikcjdoeoghoeaa
