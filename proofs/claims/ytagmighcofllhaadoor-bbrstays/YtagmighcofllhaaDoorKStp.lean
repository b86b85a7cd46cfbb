/- What Acked leaves may be, and speaks of its row. -/
import Derived.Test.YtagmighcofllhaaDoorKAck
import Derived.Test.YtagmighcofllhaaDoorKNew
namespace Go.Proofs.YtagmighcofllhaaDoor
open Go.ChangeShapes Go.WideShapes Go.ChangeAt Go.RowKit
set_option linter.unusedVariables false
set_option linter.unusedSimpArgs false

open Fil
theorem jdg_rd (c : Cc) (s : Sm) (f : Bool) (b : Int) : (jdgE c s f b).rd = c.rd := by
  unfold jdgE groE
  (repeat' split) <;> rfl
theorem cyc_rd (c : Cc) (s : Sm) (P : Int) : (cycE c s P).rd = c.rd := by
  unfold cycE cruE
  (repeat' split) <;> rfl
theorem prb_rd (c : Cc) (s : Sm) (o : Bool) : (prbE c s o).rd = c.rd := by
  unfold prbE levE
  (repeat' split) <;> rfl
theorem rtt_rd (c : Cc) (s : Sm) : (rttE c s).rd = c.rd := by
  unfold rttE
  split <;> rfl
theorem fin_rd (c : Cc) (s : Sm) (f : Bool) (b : Int) : (finE c s f b).rd = c.rd := by
  unfold finE
  show (prbE _ _ _).rd = c.rd
  rw [prb_rd, cyc_rd, jdg_rd, rtt_rd]
theorem ack_ok {c : Cc} {es : List Tm} {s : Sm} (k : okC c es = true) (k2 : smB s = true) : okC (ack8 c es s) (bw8 c es s) = true ∧ (ack8 c es s).rd = (rnd8 c s).rd ∧ (bw8 c es s).length ≤ es.length + 1 := by
  obtain ⟨h0, hr0⟩ := ok8_out k
  have hs0 := sm_out k2
  obtain ⟨hs, hcap⟩ := sm_cap hs0
  have h1 : Ok8 (rnd8 c s) := ok_rnd h0 hs
  have hr1 : rat8 (rnd8 c s) es = true := rat_rnd h0 hr0
  obtain ⟨q1, q2⟩ := rat_out hr1
  obtain ⟨f1, f2, f3⟩ := bw_ok (s := capS s) q1 q2 h1.rd ⟨hs.rr, hcap⟩
  have hfr : rat8 (rnd8 c s) (bw8 c es s) = true := rat_in f1 f2
  have hb := best_bd hfr
  have hrd : (ack8 c es s).rd = (rnd8 c s).rd := fin_rd _ _ _ _
  refine ⟨ok8_in (ok_fin h1 hs hb) ?_, hrd, f3⟩
  refine rat_in f1 (fun x hx => ⟨(f2 x hx).1, ?_⟩)
  rw [hrd]
  exact (f2 x hx).2
/-- Acked, of a controller whose row lies anywhere. -/
theorem ackR (d : Cc) (fs : List Tm) (s : Sm) (D2 : Cc) (fs2 : List Tm) (L2 : Nat) (k : okC d fs = true) (k2 : smB s = true) (hsz : d.bn * 16 ≤ 140737488351232) (e1 : ack8 d fs s = D2) (e2 : bw8 d fs s = fs2) (e3 : fs2.length = L2) (W : World) (hR : Fil.RowT W 0 d.ba d.bn d.bc fs) :
    Calls Tryd.prog 8 #[ccv d, agv (smL s)] W fun e w' => ∃ vb vj, e = .returned (.tuple #[ccv (rowed D2 vb L2 vj), .int .i64 0]) ∧ Fil.RowT w' 0 vb L2 vj fs2 ∧ Below W.heap.size W w' := by
  subst e3 e2 e1
  exact ack_yes d fs s (ok8_cci (ok8_out k).1 (by omega)) k k2 W (RowIn.of hR hsz)
theorem st8_ok {m f : Int} (h : newB m f = true) : okC (st8 m f) [] = true := by
  have h2 := h
  unfold newB at h2
  simp only [Bool.and_eq_true, decide_eq_true_eq] at h2
  have hm : 1 ≤ m ∧ m ≤ 65000 := by omega
  have hf : 1 ≤ f ∧ f ≤ 100 := by omega
  have q1 : 1 * m ≤ f * m := Int.mul_le_mul_of_nonneg_right hf.1 (by omega)
  have q2 : f * m ≤ 100 * m := Int.mul_le_mul_of_nonneg_right hf.2 (by omega)
  refine ok8_in (c := st8 m f) ?_ rfl
  constructor <;> (simp only [st8, rn]; try omega)
end Go.Proofs.YtagmighcofllhaaDoor
