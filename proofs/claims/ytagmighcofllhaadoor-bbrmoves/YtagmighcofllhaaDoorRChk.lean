/- The contract of the document's Check. -/
import Derived.Test.YtagmighcofllhaaDoorRPln
import Derived.Test.YtagmighcofllhaaDoorRChA
import Derived.Test.YtagmighcofllhaaDoorRChB
import Derived.Test.YtagmighcofllhaaDoorRChC
import Derived.Test.YtagmighcofllhaaDoorRChD
import Derived.Test.YtagmighcofllhaaDoorRChE
import Derived.Test.YtagmighcofllhaaDoorRChF
import Derived.Test.YtagmighcofllhaaDoorKOk
namespace Go.Proofs.YtagmighcofllhaaDoor
open Go.ChangeShapes Go.WideShapes Go.ChangeAt Go.RowKit
set_option linter.unusedVariables false
set_option linter.unusedSimpArgs false

open Fil

theorem first_bad {n : Nat} {P : Nat → Prop} [DecidablePred P] (h : ¬ ∀ i, i < n → P i) : ∃ m, m < n ∧ ¬ P m ∧ ∀ i, i < m → P i := by
  induction n with
  | zero => exact absurd (fun i hi => absurd hi (by omega)) h
  | succ n ih =>
    by_cases h2 : ∀ i, i < n → P i
    · refine ⟨n, by omega, fun hp => h (fun i hi => ?_), h2⟩
      by_cases e : i = n
      · exact e ▸ hp
      · exact h2 i (by omega)
    · obtain ⟨m, h3, h4, h5⟩ := ih h2
      exact ⟨m, by omega, h4, h5⟩

theorem okC_iff {c : Cc} {es : List Tm} : okC c es = true ↔ Ok8 c ∧ rat8 c es = true := ⟨ok8_out, fun h => ok8_in h.1 h.2⟩
theorem rchk8_is (c : Cc) (es : List Tm) (hn : es.length = c.bn) (w : World) (hT : TimsAt w c.ba es) : Calls Tryd.prog 12 #[ccv c] w fun e w' => e = .returned (.int .i64 (chkE c es)) ∧ Below w.heap.size w w' := by
  unfold chkE
  have hm : c.bn ≤ 9223372036854775807 := by have := hT.1; simp only [maxLen] at this; omega
  by_cases h1_0 : c.kd = 3
  case neg => rw [if_neg (fun k => by have k := okC_iff.1 k; exact absurd (by have h_ := k.1.kd; first | exact h_ | omega) h1_0)]; exact rch1_0 w c  (by simpa using h1_0) h1_0
  by_cases h1_1 : 1 ≤ c.ms
  case neg => rw [if_neg (fun k => by have k := okC_iff.1 k; exact absurd (by have h_ := k.1.ms; first | exact h_ | omega) h1_1)]; exact rch1_1 w c  h1_0 (decide_eq_true (by omega))
  by_cases h1_2 : c.ms ≤ 65000
  case neg => rw [if_neg (fun k => by have k := okC_iff.1 k; exact absurd (by have h_ := k.1.ms; first | exact h_ | omega) h1_2)]; exact rch1_2 w c  h1_0 (decide_eq_false (by omega)) (decide_eq_true (by omega))
  by_cases h1_3 : c.ms ≤ c.cw
  case neg => rw [if_neg (fun k => by have k := okC_iff.1 k; exact absurd (by have h_ := k.1.cw; first | exact h_ | omega) h1_3)]; exact rch1_3 w c  h1_0 (decide_eq_false (by omega)) (decide_eq_false (by omega)) (decide_eq_true (by omega))
  by_cases h1_4 : c.cw ≤ 1073741824
  case neg => rw [if_neg (fun k => by have k := okC_iff.1 k; exact absurd (by have h_ := k.1.cw; first | exact h_ | omega) h1_4)]; exact rch1_4 w c  h1_0 (decide_eq_false (by omega)) (decide_eq_false (by omega)) (decide_eq_false (by omega)) (decide_eq_true (by omega))
  by_cases h1_5 : c.ss = 1073741824
  case neg => rw [if_neg (fun k => by have k := okC_iff.1 k; exact absurd (by have h_ := k.1.ss; first | exact h_ | omega) h1_5)]; exact rch1_5 w c  h1_0 (decide_eq_false (by omega)) (decide_eq_false (by omega)) (decide_eq_false (by omega)) (decide_eq_false (by omega)) (by simpa using h1_5) h1_5
  by_cases h1_6 : c.ac = 0
  case neg => rw [if_neg (fun k => by have k := okC_iff.1 k; exact absurd (by have h_ := k.1.ac; first | exact h_ | omega) h1_6)]; exact rch1_6 w c  h1_0 (decide_eq_false (by omega)) (decide_eq_false (by omega)) (decide_eq_false (by omega)) (decide_eq_false (by omega)) h1_5 (by simpa using h1_6) h1_6
  by_cases h1_7 : plnB c = true
  case neg => rw [if_neg (fun k => by have k := okC_iff.1 k; exact absurd (show plnB c = true from decide_eq_true ⟨k.1.wm, k.1.ep, k.1.ck, k.1.we, k.1.st⟩) h1_7)]; exact rch1_7 w c  h1_0 (decide_eq_false (by omega)) (decide_eq_false (by omega)) (decide_eq_false (by omega)) (decide_eq_false (by omega)) h1_5 h1_6 (fun W _ => pln_is c (Bool.eq_false_iff.2 h1_7) W)
  by_cases h3_0 : 1 ≤ c.md
  case neg => rw [if_neg (fun k => by have k := okC_iff.1 k; exact absurd (by have h_ := k.1.md; first | exact h_ | omega) h3_0)]; exact rch3_0 w c  h1_0 (decide_eq_false (by omega)) (decide_eq_false (by omega)) (decide_eq_false (by omega)) (decide_eq_false (by omega)) h1_5 h1_6 (fun W _ => pln_is c h1_7 W) (decide_eq_true (by omega))
  by_cases h3_1 : c.md ≤ 4
  case neg => rw [if_neg (fun k => by have k := okC_iff.1 k; exact absurd (by have h_ := k.1.md; first | exact h_ | omega) h3_1)]; exact rch3_1 w c  h1_0 (decide_eq_false (by omega)) (decide_eq_false (by omega)) (decide_eq_false (by omega)) (decide_eq_false (by omega)) h1_5 h1_6 (fun W _ => pln_is c h1_7 W) (decide_eq_false (by omega)) (decide_eq_true (by omega))
  by_cases h3_2 : chk true none es = true
  case neg => rw [if_neg (fun k => by have k := okC_iff.1 k; exact absurd (rat_out k.2).1 h3_2)]; exact rch3_2 w c  h1_0 (decide_eq_false (by omega)) (decide_eq_false (by omega)) (decide_eq_false (by omega)) (decide_eq_false (by omega)) h1_5 h1_6 (fun W _ => pln_is c h1_7 W) (decide_eq_false (by omega)) (decide_eq_false (by omega)) (fun W hW => refCheck_any c.ba c.bc es true W (hT.below hW (Nat.le_refl _)) c.bn hn 2 (by unfold errI; rw [if_neg h3_2]))
  by_cases h3_3 : 0 ≤ c.mr ∧ c.mr ≤ 1125899906842624
  case neg => rw [if_neg (fun k => by have k := okC_iff.1 k; exact absurd (by have h_ := k.1.mr; first | exact h_ | omega) h3_3)]; exact rch3_3 w c  h1_0 (decide_eq_false (by omega)) (decide_eq_false (by omega)) (decide_eq_false (by omega)) (decide_eq_false (by omega)) h1_5 h1_6 (fun W _ => pln_is c h1_7 W) (decide_eq_false (by omega)) (decide_eq_false (by omega)) (fun W hW => refCheck_any c.ba c.bc es true W (hT.below hW (Nat.le_refl _)) c.bn hn 0 (by unfold errI; rw [if_pos h3_2])) (fun W => rtm_is c.mr (decide_eq_false h3_3) W)
  by_cases h3_4 : 0 ≤ c.ma ∧ c.ma ≤ 1125899906842624
  case neg => rw [if_neg (fun k => by have k := okC_iff.1 k; exact absurd (by have h_ := k.1.ma; first | exact h_ | omega) h3_4)]; exact rch3_4 w c  h1_0 (decide_eq_false (by omega)) (decide_eq_false (by omega)) (decide_eq_false (by omega)) (decide_eq_false (by omega)) h1_5 h1_6 (fun W _ => pln_is c h1_7 W) (decide_eq_false (by omega)) (decide_eq_false (by omega)) (fun W hW => refCheck_any c.ba c.bc es true W (hT.below hW (Nat.le_refl _)) c.bn hn 0 (by unfold errI; rw [if_pos h3_2])) (fun W => rtm_is c.mr (decide_eq_true h3_3) W) (fun W => rtm_is c.ma (decide_eq_false h3_4) W)
  by_cases h3_5 : 0 ≤ c.na ∧ c.na ≤ 1125899906842624
  case neg => rw [if_neg (fun k => by have k := okC_iff.1 k; exact absurd (by have h_ := k.1.na; first | exact h_ | omega) h3_5)]; exact rch3_5 w c  h1_0 (decide_eq_false (by omega)) (decide_eq_false (by omega)) (decide_eq_false (by omega)) (decide_eq_false (by omega)) h1_5 h1_6 (fun W _ => pln_is c h1_7 W) (decide_eq_false (by omega)) (decide_eq_false (by omega)) (fun W hW => refCheck_any c.ba c.bc es true W (hT.below hW (Nat.le_refl _)) c.bn hn 0 (by unfold errI; rw [if_pos h3_2])) (fun W => rtm_is c.mr (decide_eq_true h3_3) W) (fun W => rtm_is c.ma (decide_eq_true h3_4) W) (fun W => rtm_is c.na (decide_eq_false h3_5) W)
  by_cases h3_6 : 0 ≤ c.pa ∧ c.pa ≤ 1125899906842624
  case neg => rw [if_neg (fun k => by have k := okC_iff.1 k; exact absurd (by have h_ := k.1.pa; first | exact h_ | omega) h3_6)]; exact rch3_6 w c  h1_0 (decide_eq_false (by omega)) (decide_eq_false (by omega)) (decide_eq_false (by omega)) (decide_eq_false (by omega)) h1_5 h1_6 (fun W _ => pln_is c h1_7 W) (decide_eq_false (by omega)) (decide_eq_false (by omega)) (fun W hW => refCheck_any c.ba c.bc es true W (hT.below hW (Nat.le_refl _)) c.bn hn 0 (by unfold errI; rw [if_pos h3_2])) (fun W => rtm_is c.mr (decide_eq_true h3_3) W) (fun W => rtm_is c.ma (decide_eq_true h3_4) W) (fun W => rtm_is c.na (decide_eq_true h3_5) W) (fun W => rtm_is c.pa (decide_eq_false h3_6) W)
  by_cases h3_7 : 0 ≤ c.da ∧ c.da ≤ 1125899906842624
  case neg => rw [if_neg (fun k => by have k := okC_iff.1 k; exact absurd (by have h_ := k.1.da; first | exact h_ | omega) h3_7)]; exact rch3_7 w c  h1_0 (decide_eq_false (by omega)) (decide_eq_false (by omega)) (decide_eq_false (by omega)) (decide_eq_false (by omega)) h1_5 h1_6 (fun W _ => pln_is c h1_7 W) (decide_eq_false (by omega)) (decide_eq_false (by omega)) (fun W hW => refCheck_any c.ba c.bc es true W (hT.below hW (Nat.le_refl _)) c.bn hn 0 (by unfold errI; rw [if_pos h3_2])) (fun W => rtm_is c.mr (decide_eq_true h3_3) W) (fun W => rtm_is c.ma (decide_eq_true h3_4) W) (fun W => rtm_is c.na (decide_eq_true h3_5) W) (fun W => rtm_is c.pa (decide_eq_true h3_6) W) (fun W => rtm_is c.da (decide_eq_false h3_7) W)
  by_cases h3_8 : 0 ≤ c.rd ∧ c.rd ≤ 1125899906842624
  case neg => rw [if_neg (fun k => by have k := okC_iff.1 k; exact absurd (by have h_ := k.1.rd; first | exact h_ | omega) h3_8)]; exact rch3_8 w c  h1_0 (decide_eq_false (by omega)) (decide_eq_false (by omega)) (decide_eq_false (by omega)) (decide_eq_false (by omega)) h1_5 h1_6 (fun W _ => pln_is c h1_7 W) (decide_eq_false (by omega)) (decide_eq_false (by omega)) (fun W hW => refCheck_any c.ba c.bc es true W (hT.below hW (Nat.le_refl _)) c.bn hn 0 (by unfold errI; rw [if_pos h3_2])) (fun W => rtm_is c.mr (decide_eq_true h3_3) W) (fun W => rtm_is c.ma (decide_eq_true h3_4) W) (fun W => rtm_is c.na (decide_eq_true h3_5) W) (fun W => rtm_is c.pa (decide_eq_true h3_6) W) (fun W => rtm_is c.da (decide_eq_true h3_7) W) (fun W => rtm_is c.rd (decide_eq_false h3_8) W)
  by_cases hl : ∀ i, i < c.bn → (es[i]?.getD (0, 0)).2 ≤ 1099511627776 ∧ (es[i]?.getD (0, 0)).1 ≤ c.rd
  case neg =>
    obtain ⟨m, hm1, hm2, hm3⟩ := first_bad hl
    rw [if_neg (fun k => by
      have k := okC_iff.1 k
      have h_ := (rat_out k.2).2 (es[m]'(by omega)) (List.getElem_mem _)
      exact hm2 (by simpa [show m < es.length by omega] using h_))]
    exact rchL_x w c  h1_0 (decide_eq_false (by omega)) (decide_eq_false (by omega)) (decide_eq_false (by omega)) (decide_eq_false (by omega)) h1_5 h1_6 (fun W _ => pln_is c h1_7 W) (decide_eq_false (by omega)) (decide_eq_false (by omega)) (fun W hW => refCheck_any c.ba c.bc es true W (hT.below hW (Nat.le_refl _)) c.bn hn 0 (by unfold errI; rw [if_pos h3_2])) (fun W => rtm_is c.mr (decide_eq_true h3_3) W) (fun W => rtm_is c.ma (decide_eq_true h3_4) W) (fun W => rtm_is c.na (decide_eq_true h3_5) W) (fun W => rtm_is c.pa (decide_eq_true h3_6) W) (fun W => rtm_is c.da (decide_eq_true h3_7) W) (fun W => rtm_is c.rd (decide_eq_true h3_8) W) es c.bn m ⟨rfl, hn, hT⟩ (by omega) hm hm3 hm1 hm2
  by_cases hz_0 : 0 ≤ c.fu
  case neg => rw [if_neg (fun k => by have k := okC_iff.1 k; exact absurd (by have h_ := k.1.fu; first | exact h_ | omega) hz_0)]; exact rchZ_0 w c  h1_0 (decide_eq_false (by omega)) (decide_eq_false (by omega)) (decide_eq_false (by omega)) (decide_eq_false (by omega)) h1_5 h1_6 (fun W _ => pln_is c h1_7 W) (decide_eq_false (by omega)) (decide_eq_false (by omega)) (fun W hW => refCheck_any c.ba c.bc es true W (hT.below hW (Nat.le_refl _)) c.bn hn 0 (by unfold errI; rw [if_pos h3_2])) (fun W => rtm_is c.mr (decide_eq_true h3_3) W) (fun W => rtm_is c.ma (decide_eq_true h3_4) W) (fun W => rtm_is c.na (decide_eq_true h3_5) W) (fun W => rtm_is c.pa (decide_eq_true h3_6) W) (fun W => rtm_is c.da (decide_eq_true h3_7) W) (fun W => rtm_is c.rd (decide_eq_true h3_8) W) es c.bn ⟨rfl, hn, hT⟩ hm hl  (decide_eq_true (by omega))
  by_cases hz_1 : c.fu ≤ 1099511627776
  case neg => rw [if_neg (fun k => by have k := okC_iff.1 k; exact absurd (by have h_ := k.1.fu; first | exact h_ | omega) hz_1)]; exact rchZ_1 w c  h1_0 (decide_eq_false (by omega)) (decide_eq_false (by omega)) (decide_eq_false (by omega)) (decide_eq_false (by omega)) h1_5 h1_6 (fun W _ => pln_is c h1_7 W) (decide_eq_false (by omega)) (decide_eq_false (by omega)) (fun W hW => refCheck_any c.ba c.bc es true W (hT.below hW (Nat.le_refl _)) c.bn hn 0 (by unfold errI; rw [if_pos h3_2])) (fun W => rtm_is c.mr (decide_eq_true h3_3) W) (fun W => rtm_is c.ma (decide_eq_true h3_4) W) (fun W => rtm_is c.na (decide_eq_true h3_5) W) (fun W => rtm_is c.pa (decide_eq_true h3_6) W) (fun W => rtm_is c.da (decide_eq_true h3_7) W) (fun W => rtm_is c.rd (decide_eq_true h3_8) W) es c.bn ⟨rfl, hn, hT⟩ hm hl  (decide_eq_false (by omega)) (decide_eq_true (by omega))
  by_cases hz_2 : 0 ≤ c.fc
  case neg => rw [if_neg (fun k => by have k := okC_iff.1 k; exact absurd (by have h_ := k.1.fc; first | exact h_ | omega) hz_2)]; exact rchZ_2 w c  h1_0 (decide_eq_false (by omega)) (decide_eq_false (by omega)) (decide_eq_false (by omega)) (decide_eq_false (by omega)) h1_5 h1_6 (fun W _ => pln_is c h1_7 W) (decide_eq_false (by omega)) (decide_eq_false (by omega)) (fun W hW => refCheck_any c.ba c.bc es true W (hT.below hW (Nat.le_refl _)) c.bn hn 0 (by unfold errI; rw [if_pos h3_2])) (fun W => rtm_is c.mr (decide_eq_true h3_3) W) (fun W => rtm_is c.ma (decide_eq_true h3_4) W) (fun W => rtm_is c.na (decide_eq_true h3_5) W) (fun W => rtm_is c.pa (decide_eq_true h3_6) W) (fun W => rtm_is c.da (decide_eq_true h3_7) W) (fun W => rtm_is c.rd (decide_eq_true h3_8) W) es c.bn ⟨rfl, hn, hT⟩ hm hl  (decide_eq_false (by omega)) (decide_eq_false (by omega)) (decide_eq_true (by omega))
  by_cases hz_3 : c.fc ≤ 3
  case neg => rw [if_neg (fun k => by have k := okC_iff.1 k; exact absurd (by have h_ := k.1.fc; first | exact h_ | omega) hz_3)]; exact rchZ_3 w c  h1_0 (decide_eq_false (by omega)) (decide_eq_false (by omega)) (decide_eq_false (by omega)) (decide_eq_false (by omega)) h1_5 h1_6 (fun W _ => pln_is c h1_7 W) (decide_eq_false (by omega)) (decide_eq_false (by omega)) (fun W hW => refCheck_any c.ba c.bc es true W (hT.below hW (Nat.le_refl _)) c.bn hn 0 (by unfold errI; rw [if_pos h3_2])) (fun W => rtm_is c.mr (decide_eq_true h3_3) W) (fun W => rtm_is c.ma (decide_eq_true h3_4) W) (fun W => rtm_is c.na (decide_eq_true h3_5) W) (fun W => rtm_is c.pa (decide_eq_true h3_6) W) (fun W => rtm_is c.da (decide_eq_true h3_7) W) (fun W => rtm_is c.rd (decide_eq_true h3_8) W) es c.bn ⟨rfl, hn, hT⟩ hm hl  (decide_eq_false (by omega)) (decide_eq_false (by omega)) (decide_eq_false (by omega)) (decide_eq_true (by omega))
  by_cases hz_4 : 0 ≤ c.ph
  case neg => rw [if_neg (fun k => by have k := okC_iff.1 k; exact absurd (by have h_ := k.1.ph; first | exact h_ | omega) hz_4)]; exact rchZ_4 w c  h1_0 (decide_eq_false (by omega)) (decide_eq_false (by omega)) (decide_eq_false (by omega)) (decide_eq_false (by omega)) h1_5 h1_6 (fun W _ => pln_is c h1_7 W) (decide_eq_false (by omega)) (decide_eq_false (by omega)) (fun W hW => refCheck_any c.ba c.bc es true W (hT.below hW (Nat.le_refl _)) c.bn hn 0 (by unfold errI; rw [if_pos h3_2])) (fun W => rtm_is c.mr (decide_eq_true h3_3) W) (fun W => rtm_is c.ma (decide_eq_true h3_4) W) (fun W => rtm_is c.na (decide_eq_true h3_5) W) (fun W => rtm_is c.pa (decide_eq_true h3_6) W) (fun W => rtm_is c.da (decide_eq_true h3_7) W) (fun W => rtm_is c.rd (decide_eq_true h3_8) W) es c.bn ⟨rfl, hn, hT⟩ hm hl  (decide_eq_false (by omega)) (decide_eq_false (by omega)) (decide_eq_false (by omega)) (decide_eq_false (by omega)) (decide_eq_true (by omega))
  by_cases hz_5 : c.ph ≤ 7
  case neg => rw [if_neg (fun k => by have k := okC_iff.1 k; exact absurd (by have h_ := k.1.ph; first | exact h_ | omega) hz_5)]; exact rchZ_5 w c  h1_0 (decide_eq_false (by omega)) (decide_eq_false (by omega)) (decide_eq_false (by omega)) (decide_eq_false (by omega)) h1_5 h1_6 (fun W _ => pln_is c h1_7 W) (decide_eq_false (by omega)) (decide_eq_false (by omega)) (fun W hW => refCheck_any c.ba c.bc es true W (hT.below hW (Nat.le_refl _)) c.bn hn 0 (by unfold errI; rw [if_pos h3_2])) (fun W => rtm_is c.mr (decide_eq_true h3_3) W) (fun W => rtm_is c.ma (decide_eq_true h3_4) W) (fun W => rtm_is c.na (decide_eq_true h3_5) W) (fun W => rtm_is c.pa (decide_eq_true h3_6) W) (fun W => rtm_is c.da (decide_eq_true h3_7) W) (fun W => rtm_is c.rd (decide_eq_true h3_8) W) es c.bn ⟨rfl, hn, hT⟩ hm hl  (decide_eq_false (by omega)) (decide_eq_false (by omega)) (decide_eq_false (by omega)) (decide_eq_false (by omega)) (decide_eq_false (by omega)) (decide_eq_true (by omega))
  by_cases hz_6 : 0 ≤ c.pr ∧ c.pr ≤ 1073741824
  case neg => rw [if_neg (fun k => by have k := okC_iff.1 k; exact absurd (by have h_ := k.1.pr; first | exact h_ | omega) hz_6)]; exact rchZ_6 w c  h1_0 (decide_eq_false (by omega)) (decide_eq_false (by omega)) (decide_eq_false (by omega)) (decide_eq_false (by omega)) h1_5 h1_6 (fun W _ => pln_is c h1_7 W) (decide_eq_false (by omega)) (decide_eq_false (by omega)) (fun W hW => refCheck_any c.ba c.bc es true W (hT.below hW (Nat.le_refl _)) c.bn hn 0 (by unfold errI; rw [if_pos h3_2])) (fun W => rtm_is c.mr (decide_eq_true h3_3) W) (fun W => rtm_is c.ma (decide_eq_true h3_4) W) (fun W => rtm_is c.na (decide_eq_true h3_5) W) (fun W => rtm_is c.pa (decide_eq_true h3_6) W) (fun W => rtm_is c.da (decide_eq_true h3_7) W) (fun W => rtm_is c.rd (decide_eq_true h3_8) W) es c.bn ⟨rfl, hn, hT⟩ hm hl  (decide_eq_false (by omega)) (decide_eq_false (by omega)) (decide_eq_false (by omega)) (decide_eq_false (by omega)) (decide_eq_false (by omega)) (decide_eq_false (by omega)) (fun W => rsz_is c.pr (decide_eq_false hz_6) W)
  have hpl := of_decide_eq_true h1_7
  rw [if_pos (okC_iff.2 ⟨⟨h1_0, h1_5, h1_6, ⟨h3_0, h3_1⟩, h3_3, h3_4, h3_8, h3_5, ⟨hz_0, hz_1⟩, ⟨hz_2, hz_3⟩, ⟨hz_4, by omega⟩, h3_6, h3_7, hz_6, ⟨h1_1, h1_2⟩, ⟨h1_3, h1_4⟩, hpl.1, hpl.2.1, hpl.2.2.1, hpl.2.2.2.1, hpl.2.2.2.2⟩, rat_in h3_2 (fun x hx => by
    obtain ⟨j, hj, rfl⟩ := List.getElem_of_mem hx
    have h_ := hl j (by omega)
    simpa [hj] using h_)⟩)]
  exact rchZ_7 w c  h1_0 (decide_eq_false (by omega)) (decide_eq_false (by omega)) (decide_eq_false (by omega)) (decide_eq_false (by omega)) h1_5 h1_6 (fun W _ => pln_is c h1_7 W) (decide_eq_false (by omega)) (decide_eq_false (by omega)) (fun W hW => refCheck_any c.ba c.bc es true W (hT.below hW (Nat.le_refl _)) c.bn hn 0 (by unfold errI; rw [if_pos h3_2])) (fun W => rtm_is c.mr (decide_eq_true h3_3) W) (fun W => rtm_is c.ma (decide_eq_true h3_4) W) (fun W => rtm_is c.na (decide_eq_true h3_5) W) (fun W => rtm_is c.pa (decide_eq_true h3_6) W) (fun W => rtm_is c.da (decide_eq_true h3_7) W) (fun W => rtm_is c.rd (decide_eq_true h3_8) W) es c.bn ⟨rfl, hn, hT⟩ hm hl  (decide_eq_false (by omega)) (decide_eq_false (by omega)) (decide_eq_false (by omega)) (decide_eq_false (by omega)) (decide_eq_false (by omega)) (decide_eq_false (by omega)) (fun W => rsz_is c.pr (decide_eq_true hz_6) W)

theorem rchk8_ok (c : Cc) (es : List Tm) (hn : es.length = c.bn) (k : okC c es = true) (w : World) (hT : TimsAt w c.ba es) : Calls Tryd.prog 12 #[ccv c] w fun e w' => e = .returned (.int .i64 0) ∧ Below w.heap.size w w' := by
  have := rchk8_is c es hn w hT
  unfold chkE at this
  rw [if_pos k] at this
  exact this
theorem rchk8_no (c : Cc) (es : List Tm) (hn : es.length = c.bn) (k : okC c es = false) (w : World) (hT : TimsAt w c.ba es) : Calls Tryd.prog 12 #[ccv c] w fun e w' => e = .returned (.int .i64 230) ∧ Below w.heap.size w w' := by
  have := rchk8_is c es hn w hT
  unfold chkE at this
  rw [if_neg (by rw [k]; simp)] at this
  exact this
end Go.Proofs.YtagmighcofllhaaDoor
