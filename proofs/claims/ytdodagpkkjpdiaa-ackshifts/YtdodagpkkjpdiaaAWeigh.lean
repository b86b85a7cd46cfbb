/- The contract of Weigh. -/
import Derived.Test.YtdodagpkkjpdiaaAWgN
import Derived.Test.YtdodagpkkjpdiaaAWgS0
import Derived.Test.YtdodagpkkjpdiaaAWgS1
import Derived.Test.YtdodagpkkjpdiaaAWgS2
namespace Go.Proofs.Ytdodagpkkjpdiaa
open Go.ChangeShapes Go.WideShapes Go.ChangeAt Go.RowKit Go.Shelf
set_option linter.unusedVariables false
set_option linter.unusedSimpArgs false
attribute [local go_sem] Oper.semAt_some


/-- What Weigh answers: what is heard, its spans in a row of their own. -/
def WgE (w : World) (h : Ak.Hr) (e : Ending) (w' : World) : Prop := ∃ va vc, e = .returned (agv (hcL (hcOf h va vc))) ∧ RowT w' w.heap.size va h.sp.length vc h.sp ∧ Below w.heap.size w w'
theorem wg_zero {a : Ak.As} {s : Seg} {k : Hs} {w : World} (hz : Ak.cntB a (snOf s) = false) (h : Calls Try.prog 8 #[agv (asL a), agv (sgL s k)] w fun e w' => e = .returned (agv (hcL hcZ)) ∧ Below w.heap.size w w') : Calls Try.prog 8 #[agv (asL a), agv (sgL s k)] w (WgE w (Ak.hear a (snOf s))) := by
  rw [Ak.without hz]
  refine h.mono ?_
  rintro e w' ⟨rfl, hB⟩
  exact ⟨none, 0, rfl, RowT.nil _ _, hB⟩
theorem wg_plain {a : Ak.As} {s : Seg} {k : Hs} {w : World} {H : Ak.Hr} {c : List Value} (hh : Ak.hear a (snOf s) = H) (hp : H.sp = []) (hc : c = hcL (hcOf H none 0)) (h : Calls Try.prog 8 #[agv (asL a), agv (sgL s k)] w fun e w' => e = .returned (agv c) ∧ Below w.heap.size w w') : Calls Try.prog 8 #[agv (asL a), agv (sgL s k)] w (WgE w (Ak.hear a (snOf s))) := by
  rw [hh]
  refine h.mono ?_
  rintro e w' ⟨rfl, hB⟩
  exact ⟨none, 0, by rw [hc], by rw [hp]; exact RowT.nil _ _, hB⟩
theorem weigh_is (a : Ak.As) (s : Seg) (k : Hs) (ha : AsI a) (w : World) (hK : BlksAt w k.ka s.sk) (hr : s.sk.length * 16 ≤ 281474976710656) : Calls Try.prog 8 #[agv (asL a), agv (sgL s k)] w (WgE w (Ak.hear a (snOf s))) := by
  have c1 := may_is a
  have c2 := isack_is s k
  have c3 := cur_is a s k
  have no : (¬ ((0 ≤ a.una ∧ a.una ≤ a.nxt ∧ a.nxt ≤ 1125899906842625) ∧ (snOf s).fa = true ∧ (a.stm = true → (snOf s).st = true ∧ 0 ≤ Ak.dif a.rcn s.va) ∧ Ak.posI a (snOf s) = a.per ∧ 0 ≤ Ak.xI a (snOf s) ∧ Ak.xI a (snOf s) ≤ a.nxt)) → Ak.cntB a (snOf s) = false := fun hn => by
    cases hc : Ak.cntB a (snOf s) with
    | false => rfl
    | true =>
      obtain ⟨k1, k2, _, k4, k5, k6, k7⟩ := Ak.cnt_out hc
      exact absurd ⟨k1, k2, k4, k5, k6, k7⟩ hn
  by_cases e1 : 0 ≤ a.una ∧ a.una ≤ a.nxt ∧ a.nxt ≤ 1125899906842625
  · simp only [decide_eq_true e1] at c1
    cases e2 : decide (bits .and .i64 s.fl 22 = 16) with
    | false =>
      simp only [e2] at c2
      exact wg_zero (no fun h => by have := h.2.1; rw [show (snOf s).fa = false from e2] at this; cases this) (wg_no2 a s k ha rfl rfl c1 c2 w)
    | true =>
      simp only [e2] at c2
      cases e3 : (!a.stm || (s.st && decide (0 ≤ Ak.dif a.rcn s.va))) with
      | false =>
        simp only [e3] at c3
        refine wg_zero (no fun h => ?_) (wg_no3 a s k ha rfl rfl c1 c2 c3 w)
        simp only [Bool.or_eq_false_iff, Bool.and_eq_false_iff, Bool.not_eq_false', decide_eq_false_iff_not] at e3
        obtain ⟨h1, h2⟩ := h.2.2.1 e3.1
        rcases e3.2 with k | k
        · rw [show s.st = true from h1] at k; cases k
        · exact k h2
      | true =>
        simp only [e3] at c3
        have e3' : a.stm = true → (snOf s).st = true ∧ 0 ≤ Ak.dif a.rcn s.va := fun hs => by
          simp only [hs, Bool.not_true, Bool.false_or, Bool.and_eq_true, decide_eq_true_eq] at e3
          exact e3
        by_cases e4 : Ak.posI a (snOf s) = a.per
        · have h4 : (Ak.posI a (snOf s) != a.per) = false := by simp [e4]
          by_cases e5 : Ak.xI a (snOf s) < 0
          · exact wg_zero (no fun h => by have := h.2.2.2.2.1; omega) (wg_no5 a s k ha rfl rfl c1 c2 c3 h4 (decide_eq_true e5) w)
          · have h5 := decide_eq_false e5
            by_cases e6 : a.nxt < Ak.xI a (snOf s)
            · exact wg_zero (no fun h => by have := h.2.2.2.2.2; omega) (wg_no6 a s k ha rfl rfl c1 c2 c3 h4 h5 (decide_eq_true e6) w)
            · have h6 := decide_eq_false e6
              have hcnt : Ak.cntB a (snOf s) = true := Ak.cnt_in e1 e2 rfl e3' e4 ⟨by omega, by omega⟩
              have h0 : 0 ≤ max (Ak.xI a (snOf s)) a.una := by omega
              have hm0 : min a.nxt 1125899906842624 ≤ 1125899906842624 := by omega
              have htn : Ak.twB (Ak.xI a (snOf s)) (plc a s.sk) = true → 1 ≤ s.sk.length := fun ht => by
                cases hs : s.sk with
                | nil => rw [hs] at ht; cases ht
                | cons b r => simp
              have hwn := Ak.blks_in (a := a) ⟨by omega, by omega⟩ (snOf s)
              have hHK : Hid (BlksAt w k.ka s.sk ∧ s.sk.length = s.sk.length) := ⟨hK, rfl⟩
              have hl : ∀ L, Ak.laidL (max (Ak.xI a (snOf s)) a.una) (min a.nxt 1125899906842624) L = Ak.laidL (max (Ak.xI a (snOf s)) a.una) a.nxt L := fun L => Ak.laid_min L
              cases hst : a.stm with
              | false =>
                cases hsk : a.sck with
                | false => exact wg_plain (by unfold Ak.hear; rw [if_pos hcnt]) (by simp [hsk]) (by simp only [hst, hsk, if_true, if_false, Bool.false_and, false_and, Bool.false_eq_true]; rfl) (wg_y00 a s k ha rfl rfl rfl hst hsk c1 c2 c3 h4 h5 h6 w)
                | true =>
                  refine (wg_y01 w a s k ha rfl rfl rfl hst hsk c1 c2 c3 h4 h5 h6 hHK hr rfl rfl h0 hm0 htn hwn rfl rfl).mono ?_
                  rintro e w' ⟨va, vc, rfl, h7, h8⟩
                  rw [hl] at h7 ⊢
                  have hh : Ak.hear a (snOf s) = ⟨true, max (Ak.xI a (snOf s)) a.una, decide (Ak.xI a (snOf s) < a.una), Ak.posI a (snOf s), s.wn, 0, 0, Ak.twB (Ak.xI a (snOf s)) (plc a s.sk), Ak.laidL (max (Ak.xI a (snOf s)) a.una) a.nxt (if Ak.twB (Ak.xI a (snOf s)) (plc a s.sk) = true then (plc a s.sk).drop 1 else plc a s.sk)⟩ := by
                    unfold Ak.hear; rw [if_pos hcnt]; simp only [hst, hsk, if_true, Bool.true_and, false_and, Bool.false_eq_true, if_false]; rfl
                  rw [hh]
                  exact ⟨va, vc, rfl, h7, h8⟩
              | true =>
                cases hun : decide (a.una < Ak.xI a (snOf s)) with
                | false =>
                  have hun' := of_decide_eq_false hun
                  cases hsk : a.sck with
                  | false => exact wg_plain (by unfold Ak.hear; rw [if_pos hcnt]) (by simp [hsk]) (by simp only [hst, hsk, hun', if_true, if_false, Bool.false_and, and_false, and_self, Bool.false_eq_true]; rfl) (wg_y10 a s k ha rfl rfl rfl hst hsk c1 c2 c3 h4 h5 h6 hun w)
                  | true =>
                    refine (wg_y11 w a s k ha rfl rfl rfl hst hsk c1 c2 c3 h4 h5 h6 hun hHK hr rfl rfl h0 hm0 htn hwn rfl rfl).mono ?_
                    rintro e w' ⟨va, vc, rfl, h7, h8⟩
                    rw [hl] at h7 ⊢
                    have hh : Ak.hear a (snOf s) = ⟨true, max (Ak.xI a (snOf s)) a.una, decide (Ak.xI a (snOf s) < a.una), Ak.posI a (snOf s), s.wn, s.va, 0, Ak.twB (Ak.xI a (snOf s)) (plc a s.sk), Ak.laidL (max (Ak.xI a (snOf s)) a.una) a.nxt (if Ak.twB (Ak.xI a (snOf s)) (plc a s.sk) = true then (plc a s.sk).drop 1 else plc a s.sk)⟩ := by
                      unfold Ak.hear; rw [if_pos hcnt]; simp only [hst, hsk, hun', if_true, Bool.true_and, and_false, if_false]; rfl
                    rw [hh]
                    exact ⟨va, vc, rfl, h7, h8⟩
                | true =>
                  have hun' := of_decide_eq_true hun
                  have c4 := adiff_walk s.ec a.now
                  cases hsk : a.sck with
                  | false => exact wg_plain (by unfold Ak.hear; rw [if_pos hcnt]) (by simp [hsk]) (by simp only [hst, hsk, hun', if_true, if_false, Bool.false_and, and_false, and_self, Bool.false_eq_true]; rfl) (wg_y20 a s k ha rfl rfl rfl hst hsk c1 c2 c3 h4 h5 h6 hun rfl c4 w)
                  | true =>
                    refine (wg_y21 w a s k ha rfl rfl rfl hst hsk c1 c2 c3 h4 h5 h6 hun rfl c4 hHK hr rfl rfl h0 hm0 htn hwn rfl rfl).mono ?_
                    rintro e w' ⟨va, vc, rfl, h7, h8⟩
                    rw [hl] at h7 ⊢
                    have hh : Ak.hear a (snOf s) = ⟨true, max (Ak.xI a (snOf s)) a.una, decide (Ak.xI a (snOf s) < a.una), Ak.posI a (snOf s), s.wn, s.va, max (Ak.dif s.ec a.now) 0, Ak.twB (Ak.xI a (snOf s)) (plc a s.sk), Ak.laidL (max (Ak.xI a (snOf s)) a.una) a.nxt (if Ak.twB (Ak.xI a (snOf s)) (plc a s.sk) = true then (plc a s.sk).drop 1 else plc a s.sk)⟩ := by
                      unfold Ak.hear; rw [if_pos hcnt]; simp only [hst, hsk, hun', if_true, Bool.true_and, and_self]; rfl
                    rw [hh]
                    exact ⟨va, vc, rfl, h7, h8⟩
        · exact wg_zero (no fun h => e4 h.2.2.2.1) (wg_no4 a s k ha rfl rfl c1 c2 c3 (by simpa using e4) w)
  · simp only [decide_eq_false e1] at c1
    exact wg_zero (no fun h => e1 h.1) (wg_no1 a s k ha rfl rfl c1 w)
end Go.Proofs.Ytdodagpkkjpdiaa
