/- The contract of the document's speed. -/
import Derived.Test.YtagmighcofllhaaDoorRSpA
import Derived.Test.YtagmighcofllhaaDoorGD
namespace Go.Proofs.YtagmighcofllhaaDoor
open Go.ChangeShapes Go.WideShapes Go.ChangeAt Go.RowKit
set_option linter.unusedVariables false
set_option linter.unusedSimpArgs false

open Fil

theorem spd_is (c : Cc) (s : Sm) (es : List Tm) (hr : 0 ≤ s.rr) (hsz : c.bn * 16 ≤ 140737488351232) (w : World) (hRo : Fil.RowT w 0 c.ba c.bn c.bc es) :
    Calls Tryd.prog 35 #[ccv c, agv (smL s)] w fun e w' => ∃ va vk, e = .returned (ccv (rowed c va (bwL es c.rd (capS s)).length vk)) ∧ Fil.RowT w' 0 va (bwL es c.rd (capS s)).length vk (bwL es c.rd (capS s)) ∧ Below w.heap.size w w' := by
  have hR : RowIn w c es := RowIn.of hRo hsz
  have hn := hR.len
  have hz : (if 1099511627776 < s.rr then 1099511627776 else s.rr) = (capS s).rr := by show _ = min s.rr 1099511627776; split <;> omega
  have hR0 : ∀ W, Below w.heap.size w W → Fil.RowT W 0 c.ba c.bn c.bc es := fun W hW => hRo.below hW (Nat.le_refl _)
  have BW := fun W (hW : Below w.heap.size w W) => rbw_is c es _ rfl hn W (hR.below hW).tims
  by_cases h0 : (capS s).rr = 0
  · have e : bwL es c.rd (capS s) = es := by unfold bwL ratP; rw [if_neg (by simp [h0])]
    rw [e, hn]
    exact rsp_z w c s es _ hz (by simpa using h0) hR0
  have hz' : ((capS s).rr == 0) = false := by simpa using h0
  cases hi : s.idl with
  | false =>
    have hid : (capS s).idl = false := hi
    have hp : ratP es (capS s) = true := by unfold ratP; simp [h0, hid]
    have e : bwL es c.rd (capS s) = putL true (cutL es c.rd) c.rd (cutV es c.rd (capS s).rr) 10 := by unfold bwL; rw [if_pos hp]
    rw [e]
    rcases Nat.eq_zero_or_pos es.length with h1 | h1
    · obtain rfl := List.eq_nil_of_length_eq_zero h1
      have ec : cutL [] c.rd = [] := rfl
      have ev : cutV [] c.rd (capS s).rr = (capS s).rr := rfl
      rw [ec, ev]
      have hn0 : c.bn = 0 := by simpa using hn.symm
      exact rsp_ne w c s [] _ hz hz' hi hR 0 _ _ _ 0 0 hn0 rfl (fun W A K hT => refPut_is A K [] c.rd (capS s).rr 10 true W hT 0 rfl (by decide) _ rfl _ rfl _ rfl)
    · obtain ⟨k, hk⟩ : ∃ k, es.length = k + 1 := ⟨es.length - 1, by omega⟩
      have hml : es.length ≤ 9223372036854775807 := hR.tims.1
      have hat : atB es c.rd = decide ((es[k]?.getD (0, 0)).1 = c.rd) := by
        unfold atB
        have e0 : es.isEmpty = false := by
          cases es with
          | nil => simp at h1
          | cons a r => rfl
        rw [show es.length - 1 = k by omega, e0, Bool.not_false, Bool.true_and]
      by_cases ha : (es[k]?.getD (0, 0)).1 = c.rd
      · have ec : cutL es c.rd = es.take k := by unfold cutL; rw [hat, if_pos (decide_eq_true ha), show es.length - 1 = k by omega]
        have ev : cutV es c.rd (capS s).rr = max (capS s).rr (es[k]?.getD (0, 0)).2 := by unfold cutV; rw [hat, if_pos (decide_eq_true ha), show es.length - 1 = k by omega]
        rw [ec, ev]
        exact rsp_na w c s es _ hz hz' hi hR _ _ _ _ k c.bn rfl _ rfl (by show k < es.length; omega) ⟨by omega, by omega⟩ (by simpa using ha) (by split <;> omega) (fun W A K hT => refPut_is A K (es.take k) c.rd _ 10 true W (hT.take k) k (by simp; omega) (by omega) _ rfl _ rfl _ rfl)
      · have ec : cutL es c.rd = es := by unfold cutL; rw [hat, if_neg (by simpa using ha)]
        have ev : cutV es c.rd (capS s).rr = (capS s).rr := by unfold cutV; rw [hat, if_neg (by simpa using ha)]
        rw [ec, ev]
        exact rsp_no w c s es _ hz hz' hi hR 0 _ _ _ k c.bn rfl _ rfl (by show k < es.length; omega) ⟨by omega, by omega⟩ (by simpa using ha) (fun W A K hT => refPut_is A K es c.rd (capS s).rr 10 true W hT c.bn hn hsz _ rfl _ rfl _ rfl)
  | true =>
    have hid : (capS s).idl = true := hi
    by_cases hP : (capS s).rr < bestV es
    · have e : bwL es c.rd (capS s) = es := by unfold bwL ratP; rw [if_neg (by simp [hid, hP])]
      rw [e, hn]
      exact rsp_y w c s es _ _ hz hz' hi (decide_eq_true hP) hR0 BW
    have hp : ratP es (capS s) = true := by unfold ratP; simp [h0, hid, hP]
    have e : bwL es c.rd (capS s) = putL true (cutL es c.rd) c.rd (cutV es c.rd (capS s).rr) 10 := by unfold bwL; rw [if_pos hp]
    rw [e]
    rcases Nat.eq_zero_or_pos es.length with h1 | h1
    · obtain rfl := List.eq_nil_of_length_eq_zero h1
      have ec : cutL [] c.rd = [] := rfl
      have ev : cutV [] c.rd (capS s).rr = (capS s).rr := rfl
      rw [ec, ev]
      have hn0 : c.bn = 0 := by simpa using hn.symm
      exact rsp_ye w c s [] _ _ hz hz' hi (decide_eq_false hP) BW hR 0 _ _ _ 0 0 hn0 rfl (fun W A K hT => refPut_is A K [] c.rd (capS s).rr 10 true W hT 0 rfl (by decide) _ rfl _ rfl _ rfl)
    · obtain ⟨k, hk⟩ : ∃ k, es.length = k + 1 := ⟨es.length - 1, by omega⟩
      have hml : es.length ≤ 9223372036854775807 := hR.tims.1
      have hat : atB es c.rd = decide ((es[k]?.getD (0, 0)).1 = c.rd) := by
        unfold atB
        have e0 : es.isEmpty = false := by
          cases es with
          | nil => simp at h1
          | cons a r => rfl
        rw [show es.length - 1 = k by omega, e0, Bool.not_false, Bool.true_and]
      by_cases ha : (es[k]?.getD (0, 0)).1 = c.rd
      · have ec : cutL es c.rd = es.take k := by unfold cutL; rw [hat, if_pos (decide_eq_true ha), show es.length - 1 = k by omega]
        have ev : cutV es c.rd (capS s).rr = max (capS s).rr (es[k]?.getD (0, 0)).2 := by unfold cutV; rw [hat, if_pos (decide_eq_true ha), show es.length - 1 = k by omega]
        rw [ec, ev]
        exact rsp_ya w c s es _ _ hz hz' hi (decide_eq_false hP) BW hR _ _ _ _ k c.bn rfl _ rfl (by show k < es.length; omega) ⟨by omega, by omega⟩ (by simpa using ha) (by split <;> omega) (fun W A K hT => refPut_is A K (es.take k) c.rd _ 10 true W (hT.take k) k (by simp; omega) (by omega) _ rfl _ rfl _ rfl)
      · have ec : cutL es c.rd = es := by unfold cutL; rw [hat, if_neg (by simpa using ha)]
        have ev : cutV es c.rd (capS s).rr = (capS s).rr := by unfold cutV; rw [hat, if_neg (by simpa using ha)]
        rw [ec, ev]
        exact rsp_yo w c s es _ _ hz hz' hi (decide_eq_false hP) BW hR 0 _ _ _ k c.bn rfl _ rfl (by show k < es.length; omega) ⟨by omega, by omega⟩ (by simpa using ha) (fun W A K hT => refPut_is A K es c.rd (capS s).rr 10 true W hT c.bn hn hsz _ rfl _ rfl _ rfl)
end Go.Proofs.YtagmighcofllhaaDoor
