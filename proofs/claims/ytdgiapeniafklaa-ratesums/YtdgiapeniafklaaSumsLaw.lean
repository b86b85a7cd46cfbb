/- The walk of RateSums, whole. -/
import Derived.Test.YtdgiapeniafklaaSumsWalk
namespace Go.Proofs.Ytdgiapeniafklaa
open Go.ChangeShapes Go.WideShapes Go.ChangeAt Go.RowKit Go.Shelf
set_option linter.unusedVariables false
set_option linter.unusedSimpArgs false
attribute [local go_sem] Oper.semAt_some


theorem mulDiv_pos {a b c : Int} (ha : 0 ≤ a) (hb : 0 ≤ b) (hc : 0 < c) : 0 ≤ mulDivI a b c := by
  unfold mulDivI
  rw [if_neg (by omega)]
  split
  · omega
  · exact Int.ediv_nonneg (Int.mul_nonneg ha hb) (by omega)

theorem sums_walk (q : Rt) (A : Option Addr) (cap : Nat) (ts : List Rc) (now low : Int) (w : World) (hq : RtI q) (hT : RecsAt w A ts) (hI : ∀ x ∈ ts, RcI x) (h1 : I64 now) (h2 : I64 low) : Calls Try.prog 7 #[agv (rtL q), .slice A ts.length cap, .int .i64 now, .int .i64 low] w fun e w' => e = .returned (.bool true) ∧ Below w.heap.size w w' := by
  have c1 := fun W (h : RecsAt W A ts) => giv_is q A cap ts now low W h hI rfl rfl rfl
  by_cases he : givE q ts now low = 0
  · have hk : okQ q = true := by
      cases k : okQ q with
      | true => rfl
      | false => unfold givE at he; rw [k] at he; simp at he
    have hb : givB ts now low = true := by
      cases k : givB ts now low with
      | true => rfl
      | false => unfold givE at he; rw [hk, k] at he; simp at he
    have e1 : givQ q ts now low = giv q ts now := by unfold givQ; rw [if_pos hk, if_pos hb]
    have e2 : givS q ts now low = gvs q ts now low := by unfold givS; rw [if_pos hk, if_pos hb]
    rw [he, e1, e2] at c1
    have hb' := hb
    unfold givB at hb'
    simp only [Bool.and_eq_true] at hb'
    have hqq := ok_out hk
    have htn := tm_out hb'.1.1
    have hml : ts.length ≤ 9223372036854775807 := hT.1
    have hau := ackU_in (ts := ts) (i := ts.length) (Nat.le_refl _) (fun j hj => recs_at hb'.2 hj)
    have hou := oneU_in (ts := ts) (i := ts.length) (Nat.le_refl _) (fun j hj => recs_at hb'.2 hj)
    rw [ackU_all] at hau
    rw [oneU_all] at hou
    have hox := rec_out hou
    by_cases h0 : ts = []
    · have ha0 : ackI ts = 0 := by rw [h0]; rfl
      have e3 : giv q ts now = ⟨q.gv, q.ga, q.fa, q.idt⟩ := by unfold giv; rw [if_pos h0]
      have e4 : gvs q ts now low = ⟨now, 0, 0, 0, false, q.gv, 0, 0⟩ := by unfold gvs; rw [if_pos h0]
      rw [e3, e4] at c1
      have hc : okQ (⟨q.gv, q.ga, q.fa, q.idt⟩ : Rt) = true := hk
      exact sums_z q A ts.length cap ts now low q.gv q.ga q.fa q.idt now 0 0 q.gv 0 0 false heads_is (by rw [h0]; simp) (by omega) (by omega) rfl hb'.2 hI ha0 hml c1 (fun W => chk_is _ (by unfold chkE; rw [if_pos hc]) W) w hT
    · have hpos : 0 < ts.length := by cases ts with | nil => exact absurd rfl h0 | cons a l => simp
      have hG : min (q.gv + ackI ts) 1125899906842624 = allG q ts := rfl
      have hGb : 0 ≤ allG q ts ∧ allG q ts ≤ 1125899906842624 := by rw [← hG]; omega
      have e3 : giv q ts now = ⟨allG q ts, now, (oneR ts).sent, if q.idt < allG q ts then 0 else q.idt⟩ := by unfold giv; rw [if_neg h0]
      have e4 : gvs q ts now low = ⟨now, ackI ts, rttI (oneR ts) now, spdI (oneR ts) (allG q ts) now low, (oneR ts).idl, allG q ts, (oneR ts).gv, 0⟩ := by unfold gvs; rw [if_neg h0]
      have hc : okQ (giv q ts now) = true := by
        rw [e3]
        refine ok_in ⟨hGb, htn, hox.2.2.2.2, ?_⟩
        show 0 ≤ (if q.idt < allG q ts then 0 else q.idt) ∧ (if q.idt < allG q ts then 0 else q.idt) ≤ 1125899906842624
        split <;> omega
      have hra : 0 ≤ spdI (oneR ts) (allG q ts) now low := by
        unfold spdI
        split
        · omega
        · rename_i hn
          exact mulDiv_pos (by omega) (by omega) (by omega)
      have hrt : 0 ≤ rttI (oneR ts) now ∧ rttI (oneR ts) now ≤ now := by unfold rttI; split <;> omega
      rw [e3] at hc c1
      rw [e4] at c1
      exact sums_m q A ts.length cap ts now low (allG q ts) _ _ _ now (ackI ts) _ _ _ _ _ _ heads_is hpos hG (by omega) rfl hb'.2 hI rfl hml c1 (fun W => chk_is _ (by unfold chkE; rw [if_pos hc]) W) w hT
  · have e1 : givQ q ts now low = rtZ ∧ givS q ts now low = smZ := by
      unfold givE at he
      unfold givQ givS
      cases k : okQ q with
      | false => simp
      | true =>
        cases k2 : givB ts now low with
        | false => simp
        | true => rw [k, k2] at he; simp at he
    rw [e1.1, e1.2] at c1
    exact sums_no q A ts.length cap ts now low _ heads_is (by simpa using he) c1 w hT
end Go.Proofs.Ytdgiapeniafklaa
