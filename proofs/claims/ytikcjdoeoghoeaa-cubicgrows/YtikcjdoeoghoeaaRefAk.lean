/- The contract of the document's Acked. -/
import Derived.Test.YtikcjdoeoghoeaaRefAck
namespace Go.Proofs.Ytikcjdoeoghoeaa
open Go.ChangeShapes Go.WideShapes Go.ChangeAt Go.RowKit
set_option linter.unusedVariables false


theorem rmd_b (a b c y : Int) (hy : mulDivI a b c = y) (ha : 0 ≤ a ∧ a ≤ 9223372036854775807) (hb : 0 ≤ b ∧ b ≤ 9223372036854775807) (hc : 1 ≤ c ∧ c ≤ 9223372036854775807) (w : World) : Calls Try.prog 30 #[.int .i64 a, .int .i64 b, .int .i64 c] w fun e w' => e = .returned (.tuple #[.int .i64 y, .int .i64 0]) ∧ Below w.heap.size w w' := by
  refine (rmd_is a b c y hy ha hb hc w).mono ?_
  rintro e w' ⟨he, n, rfl⟩
  exact ⟨he, below_drewN (Below.refl _ _) n⟩
theorem rsum_b (a b s : Int) (hs : a + b = s) (ha : 0 ≤ a ∧ a ≤ 1073741824) (hb : 0 ≤ b ∧ b ≤ 1073741824) (w : World) : Calls Try.prog 33 #[.int .i64 a, .int .i64 b] w fun e w' => e = .returned (.int .i64 s) ∧ w' = w := by
  have := rsum_walk a b (by omega) (by omega) w
  rw [show sumI a b = s from by unfold sumI; rw [if_neg (by omega), if_neg (by omega)]; exact hs] at this
  exact this
theorem rack_no' (c : Cc) (n now srtt : Int) (i : Bool) (hI : CcI c) (h : (kOk c && szB n && tmB now && tmB srtt) = false) (w : World) : Calls Try.prog 9 #[ccv c, .int .i64 n, .int .i64 now, .int .i64 srtt, .bool i] w fun e w' => e = .returned (.tuple #[ccv zC, .int .i64 (akK c n now srtt)]) ∧ Below w.heap.size w w' := by
  unfold akK
  cases k : kOk c with
  | false => rw [if_neg (by simp)]; exact rack_no c n now srtt i (fun W => rchk_no c hI k W) w
  | true =>
    rw [if_pos rfl]
    have a := fun W => rchk_ok c k W
    cases k2 : szB n with
    | false => rw [if_neg (by simp)]; exact rack_n c n now srtt i a (fun W => rsize_is n k2 W) w
    | true =>
      cases k3 : tmB now with
      | false => rw [if_neg (by simp)]; exact rack_t1 c n now srtt i a (fun W => rsize_is n k2 W) (fun W => rtime_is now k3 W) w
      | true =>
        cases k4 : tmB srtt with
        | false => rw [if_neg (by simp)]; exact rack_t2 c n now srtt i a (fun W => rsize_is n k2 W) (fun W => rtime_is now k3 W) (fun W => rtime_is srtt k4 W) w
        | true => rw [k, k2, k3, k4] at h; simp at h
theorem rack_gro (c : Cc) (n now srtt : Int) (k : kOk c = true) (k2 : szB n = true) (k3 : tmB now = true) (k4 : tmB srtt = true) (hs : c.ss ≤ c.cw) (w : World) : Calls Try.prog 9 #[ccv c, .int .i64 n, .int .i64 now, .int .i64 srtt, .bool false] w fun e w' => e = .returned (.tuple #[ccv (groE c n now srtt), .int .i64 0]) ∧ Below w.heap.size w w' := by
  have a1 := fun W => rchk_ok c k W
  have a2 := fun W => rsize_is n k2 W
  have a3 := fun W => rtime_is now k3 W
  have a4 := fun W => rtime_is srtt k4 W
  have kn := sz_out k2
  have kt := tm_out k3
  have ks := tm_out k4
  have kd := epo_ok (now := now) k kt
  obtain ⟨_, g2, g3, _⟩ := kok_out k
  unfold CubK at g2
  unfold ComK at g3
  unfold groE
  obtain ⟨d, hd⟩ : ∃ d, epoE c now = d := ⟨_, rfl⟩
  rw [hd] at kd ⊢
  obtain ⟨_, h2, h3, _⟩ := kok_out kd
  unfold CubK at h2
  unfold ComK at h3
  have ht := tim_bd (ep := d.ep) (by omega) kt ks
  obtain ⟨t, het⟩ : ∃ t, timI d.ep now srtt = t := ⟨_, rfl⟩
  rw [het] at ht ⊢
  have ha := aim_bd d t (by omega)
  have hr := ris_bd (t := t) kd kn
  have hf := fri_bd kd kn
  have c4 := fun W => rcur_is d t (kok_cci kd) (by unfold I64; omega) W
  unfold curR at c4
  rw [if_pos kd] at c4
  have hh : d.cw.tdiv 2 = d.cw / 2 := Int.tdiv_eq_ediv_of_nonneg (by omega)
  have c5 : ∀ W, Calls Try.prog 32 #[.int .i64 (curI d.ms d.wm d.ck t), .int .i64 d.cw, .int .i64 (d.cw + d.cw / 2)] W fun e w' => e = .returned (.int .i64 (aimI d t)) ∧ w' = W := fun W => rclamp_walk _ _ _ W
  have c7 : ∀ W, Calls Try.prog 30 #[.int .i64 (aimI d t - d.cw), .int .i64 n, .int .i64 d.cw] W fun e w' => e = .returned (.tuple #[.int .i64 (risI d n t), .int .i64 0]) ∧ Below W.heap.size W w' := fun W => rmd_b _ _ _ _ rfl (by omega) (by omega) (by omega) W
  have c8 := fun W => rmd_b (529 * d.ms) n (1000 * d.cw) _ rfl (by omega) (by omega) (by omega) W
  have c9 := fun W => rsum_b d.we (mulDivI (529 * d.ms) n (1000 * d.cw)) _ rfl h2.2.1 (by omega) W
  have c10 := fun W => rsum_b d.cw (risI d n t) _ rfl (by omega) (by omega) W
  have hw : (if 1073741824 < d.we + mulDivI (529 * d.ms) n (1000 * d.cw) then 1073741824 else d.we + mulDivI (529 * d.ms) n (1000 * d.cw)) = wesI d n := by unfold wesI; split <;> omega
  have hmx : (if d.cw + risI d n t < wesI d n then wesI d n else d.cw + risI d n t) = max (d.cw + risI d n t) (wesI d n) := by split <;> omega
  have hc2 : (if 1073741824 < max (d.cw + risI d n t) (wesI d n) then 1073741824 else max (d.cw + risI d n t) (wesI d n)) = min (max (d.cw + risI d n t) (wesI d n)) 1073741824 := by split <;> omega
  unfold stpE
  by_cases he : c.ep = -1
  · have hen : d.ep = now := by rw [← hd]; unfold epoE begE; rw [if_pos he]; split <;> rfl
    have htt : srtt.tdiv 1000 = t := by rw [Int.tdiv_eq_ediv_of_nonneg ks.1, ← het, hen]; unfold timI; omega
    by_cases hw0 : c.cw < c.wm
    · have e : d = { c with ep := now, st := c.cw, we := c.cw, ck := begK c } := by rw [← hd]; unfold epoE begE; rw [if_pos he, if_pos hw0]
      subst e
      have hy := md_bd (a := c.wm - c.cw) (b := 10000000000) (c := 4 * c.ms) (by omega) (by omega) (by omega)
      exact rack_a c n now srtt t _ _ _ _ _ _ _ _ _ _ hs kn kt ks g3.1 (by omega) g2.1 g2.2.2.2.2 he hw0 _ (begK c) (fun W => rmd_b (c.wm - c.cw) 10000000000 (4 * c.ms) _ rfl (by omega) (by omega) (by omega) W) (fun W => rcbrt_walk _ (by omega) W) htt ht hh (by omega) ha hw hmx hc2 c4 c5 c7 c8 c9 c10 a1 a2 a3 a4 w
    · have e : d = { c with ep := now, st := c.cw, we := c.cw, ck := 0, wm := c.cw } := by rw [← hd]; unfold epoE begE; rw [if_pos he, if_neg hw0]
      subst e
      exact rack_b c n now srtt t _ _ _ _ _ _ _ _ _ _ hs kn kt ks g3.1 (by omega) g2.1 g2.2.2.2.2 he (by omega) htt ht hh (by omega) ha hw hmx hc2 c4 c5 c7 c8 c9 c10 a1 a2 a3 a4 w
  · have e : d = c := by rw [← hd]; unfold epoE; rw [if_neg he]
    subst e
    by_cases hl : now < d.ep
    · exact rack_l d n now srtt t _ _ _ _ _ _ _ _ _ _ hs kn kt ks g3.1 (by omega) g2.1 g2.2.2.2.2 he hl (by rw [Int.tdiv_eq_ediv_of_nonneg ks.1, ← het]; unfold timI; omega) ht hh (by omega) ha hw hmx hc2 c4 c5 c7 c8 c9 c10 a1 a2 a3 a4 w
    · exact rack_g d n now srtt t _ _ _ _ _ _ _ _ _ _ hs kn kt ks g3.1 (by omega) g2.1 g2.2.2.2.2 he (by omega) (by rw [Int.tdiv_eq_ediv_of_nonneg (by omega), ← het]; unfold timI; omega) ht hh (by omega) ha hw hmx hc2 c4 c5 c7 c8 c9 c10 a1 a2 a3 a4 w
theorem rack_yes (c : Cc) (n now srtt : Int) (i : Bool) (k : kOk c = true) (k2 : szB n = true) (k3 : tmB now = true) (k4 : tmB srtt = true) (w : World) : Calls Try.prog 9 #[ccv c, .int .i64 n, .int .i64 now, .int .i64 srtt, .bool i] w fun e w' => e = .returned (.tuple #[ccv (ackK c n now srtt i), .int .i64 0]) ∧ Below w.heap.size w w' := by
  have a1 := fun W => rchk_ok c k W
  have a2 := fun W => rsize_is n k2 W
  have a3 := fun W => rtime_is now k3 W
  have a4 := fun W => rtime_is srtt k4 W
  obtain ⟨_, _, g3, _⟩ := kok_out k
  unfold ComK at g3
  have kn := sz_out k2
  unfold ackK
  cases i with
  | true => rw [if_pos rfl]; exact rack_i c n now srtt a1 a2 a3 a4 w
  | false =>
    rw [if_neg (by simp)]
    by_cases hs : c.cw < c.ss
    · rw [if_pos hs]
      exact rack_s c n now srtt (min n c.ms) (c.cw + min n c.ms) _ hs (by split <;> omega) rfl (by omega) (by split <;> omega) a1 a2 a3 a4 w
    · rw [if_neg hs]
      exact rack_gro c n now srtt k k2 k3 k4 (by omega) w
end Go.Proofs.Ytikcjdoeoghoeaa
