/- The document's Same, of two controllers that differ in where their rows lie alone. -/
import Derived.Test.YtagmighcofllhaaDoorGA
import Derived.Handy
namespace Go.Proofs.YtagmighcofllhaaDoor
open Go.ChangeShapes Go.WideShapes Go.ChangeAt Go.RowKit
set_option linter.unusedVariables false
set_option linter.unusedSimpArgs false

open Fil
theorem ne61 (f t : Int) (w : World) : (binOp .neq 61 (.agg #[.int .i64 f, .int .i64 t]) (.agg #[.int .i64 f, .int .i64 t])).run Tryd.prog w = .ok (.bool false) w := by
  have hu : Tryd.prog.underlying 61 = some (.struct (Tryd.prog.fieldsOf 61)) := by kernel_rfl
  have hs : Tryd.prog.stoodInHeld 61 = false := by kernel_rfl
  have h := run_equalIn_struct (P := Tryd.prog) w 9999 61 #[.int .i64 f, .int .i64 t] #[.int .i64 f, .int .i64 t] hu hs
  simp only [binOp]
  simp [Op.equal, Op.maxDepth, h, Op.eqFields, go_sem]

set_option maxRecDepth 100000 in
set_option maxHeartbeats 4000000 in
theorem same8_in (w : World) (c : Cc) (A B : Option Addr) (a b n : Nat) (es : List Tm) (hnm : n ≤ 9223372036854775807) (HT : Hid (TimsAt w A es ∧ TimsAt w B es ∧ es.length = n)) : Calls Tryd.prog 10 #[ccv (rowed c A n a), ccv (rowed c B n b)] w fun e w' => e = .returned (.bool true) ∧ Below w.heap.size w w' := by
  go_enter Tryd.func10, Tryd.ntmps10
  go_wp2_with (first | (refine wpC_box rfl rfl rfl ?_))
  intro X1 p HN
  have HX1 : Hid (Below w.heap.size w X1 ∧ Box X1 p 26 (ccL (rowed c A n a)) ∧ w.heap.size ≤ p ∧ True) := by
    have hb := Below.refl w.heap.size w
    obtain ⟨hg, hb2, bn⟩ := HN.out
    have hz := hb.size
    exact ⟨Below.on hb hb2, bn, by omega, trivial⟩
  clear HN 
  go_wp2_with (first | (refine wpC_box rfl rfl rfl ?_))
  intro X2 q HN
  have HX2 : Hid (Below w.heap.size w X2 ∧ Box X2 p 26 (ccL (rowed c A n a)) ∧ Box X2 q 26 (ccL (rowed c B n b)) ∧ w.heap.size ≤ p ∧ p < q ∧ True) := by
    obtain ⟨hb, b0, l0, _⟩ := HX1.out
    obtain ⟨hg, hb2, bn⟩ := HN.out
    have z0 := b0.lt
    exact ⟨Below.on hb hb2, b0.later hb2, bn, l0, by omega, trivial⟩
  clear HN HX1
  have k0 : X2.cell? ⟨p, 0, none⟩ = some (.int .i64 c.kd) := Box.cell (HX2.out.2.1) 0 rfl
  have k1 : X2.cell? ⟨p, 1, none⟩ = some (.int .i64 c.ms) := Box.cell (HX2.out.2.1) 1 rfl
  have k2 : X2.cell? ⟨p, 2, none⟩ = some (.int .i64 c.cw) := Box.cell (HX2.out.2.1) 2 rfl
  have k3 : X2.cell? ⟨p, 3, none⟩ = some (.int .i64 c.ss) := Box.cell (HX2.out.2.1) 3 rfl
  have k4 : X2.cell? ⟨p, 4, none⟩ = some (.int .i64 c.ac) := Box.cell (HX2.out.2.1) 4 rfl
  have k5 : X2.cell? ⟨p, 5, none⟩ = some (.int .i64 c.wm) := Box.cell (HX2.out.2.1) 5 rfl
  have k6 : X2.cell? ⟨p, 6, none⟩ = some (.int .i64 c.ep) := Box.cell (HX2.out.2.1) 6 rfl
  have k7 : X2.cell? ⟨p, 7, none⟩ = some (.int .i64 c.ck) := Box.cell (HX2.out.2.1) 7 rfl
  have k8 : X2.cell? ⟨p, 8, none⟩ = some (.int .i64 c.we) := Box.cell (HX2.out.2.1) 8 rfl
  have k9 : X2.cell? ⟨p, 9, none⟩ = some (.int .i64 c.st) := Box.cell (HX2.out.2.1) 9 rfl
  have k10 : X2.cell? ⟨p, 10, none⟩ = some (.int .i64 c.md) := Box.cell (HX2.out.2.1) 10 rfl
  have k12 : X2.cell? ⟨p, 12, none⟩ = some (.int .i64 c.mr) := Box.cell (HX2.out.2.1) 12 rfl
  have k13 : X2.cell? ⟨p, 13, none⟩ = some (.int .i64 c.ma) := Box.cell (HX2.out.2.1) 13 rfl
  have k14 : X2.cell? ⟨p, 14, none⟩ = some (.int .i64 c.rd) := Box.cell (HX2.out.2.1) 14 rfl
  have k15 : X2.cell? ⟨p, 15, none⟩ = some (.int .i64 c.na) := Box.cell (HX2.out.2.1) 15 rfl
  have k16 : X2.cell? ⟨p, 16, none⟩ = some (.int .i64 c.fu) := Box.cell (HX2.out.2.1) 16 rfl
  have k17 : X2.cell? ⟨p, 17, none⟩ = some (.int .i64 c.fc) := Box.cell (HX2.out.2.1) 17 rfl
  have k18 : X2.cell? ⟨p, 18, none⟩ = some (.int .i64 c.ph) := Box.cell (HX2.out.2.1) 18 rfl
  have k19 : X2.cell? ⟨p, 19, none⟩ = some (.int .i64 c.pa) := Box.cell (HX2.out.2.1) 19 rfl
  have k20 : X2.cell? ⟨p, 20, none⟩ = some (.int .i64 c.da) := Box.cell (HX2.out.2.1) 20 rfl
  have k21 : X2.cell? ⟨p, 21, none⟩ = some (.int .i64 c.pr) := Box.cell (HX2.out.2.1) 21 rfl
  have k11 : X2.cell? ⟨p, 11, none⟩ = some (.slice A n a) := Box.cell (HX2.out.2.1) 11 rfl
  have j0 : X2.cell? ⟨q, 0, none⟩ = some (.int .i64 c.kd) := Box.cell (HX2.out.2.2.1) 0 rfl
  have j1 : X2.cell? ⟨q, 1, none⟩ = some (.int .i64 c.ms) := Box.cell (HX2.out.2.2.1) 1 rfl
  have j2 : X2.cell? ⟨q, 2, none⟩ = some (.int .i64 c.cw) := Box.cell (HX2.out.2.2.1) 2 rfl
  have j3 : X2.cell? ⟨q, 3, none⟩ = some (.int .i64 c.ss) := Box.cell (HX2.out.2.2.1) 3 rfl
  have j4 : X2.cell? ⟨q, 4, none⟩ = some (.int .i64 c.ac) := Box.cell (HX2.out.2.2.1) 4 rfl
  have j5 : X2.cell? ⟨q, 5, none⟩ = some (.int .i64 c.wm) := Box.cell (HX2.out.2.2.1) 5 rfl
  have j6 : X2.cell? ⟨q, 6, none⟩ = some (.int .i64 c.ep) := Box.cell (HX2.out.2.2.1) 6 rfl
  have j7 : X2.cell? ⟨q, 7, none⟩ = some (.int .i64 c.ck) := Box.cell (HX2.out.2.2.1) 7 rfl
  have j8 : X2.cell? ⟨q, 8, none⟩ = some (.int .i64 c.we) := Box.cell (HX2.out.2.2.1) 8 rfl
  have j9 : X2.cell? ⟨q, 9, none⟩ = some (.int .i64 c.st) := Box.cell (HX2.out.2.2.1) 9 rfl
  have j10 : X2.cell? ⟨q, 10, none⟩ = some (.int .i64 c.md) := Box.cell (HX2.out.2.2.1) 10 rfl
  have j12 : X2.cell? ⟨q, 12, none⟩ = some (.int .i64 c.mr) := Box.cell (HX2.out.2.2.1) 12 rfl
  have j13 : X2.cell? ⟨q, 13, none⟩ = some (.int .i64 c.ma) := Box.cell (HX2.out.2.2.1) 13 rfl
  have j14 : X2.cell? ⟨q, 14, none⟩ = some (.int .i64 c.rd) := Box.cell (HX2.out.2.2.1) 14 rfl
  have j15 : X2.cell? ⟨q, 15, none⟩ = some (.int .i64 c.na) := Box.cell (HX2.out.2.2.1) 15 rfl
  have j16 : X2.cell? ⟨q, 16, none⟩ = some (.int .i64 c.fu) := Box.cell (HX2.out.2.2.1) 16 rfl
  have j17 : X2.cell? ⟨q, 17, none⟩ = some (.int .i64 c.fc) := Box.cell (HX2.out.2.2.1) 17 rfl
  have j18 : X2.cell? ⟨q, 18, none⟩ = some (.int .i64 c.ph) := Box.cell (HX2.out.2.2.1) 18 rfl
  have j19 : X2.cell? ⟨q, 19, none⟩ = some (.int .i64 c.pa) := Box.cell (HX2.out.2.2.1) 19 rfl
  have j20 : X2.cell? ⟨q, 20, none⟩ = some (.int .i64 c.da) := Box.cell (HX2.out.2.2.1) 20 rfl
  have j21 : X2.cell? ⟨q, 21, none⟩ = some (.int .i64 c.pr) := Box.cell (HX2.out.2.2.1) 21 rfl
  have j11 : X2.cell? ⟨q, 11, none⟩ = some (.slice B n b) := Box.cell (HX2.out.2.2.1) 11 rfl
  go_upto_region 1 with fail
  (try simp only [List.append_eq, List.cons_append, List.nil_append])
  go_upto_region 3 with fail
  (try simp only [List.append_eq, List.cons_append, List.nil_append])
  go_upto_region 5 with fail
  clear k0 j0 k1 j1 k2 j2 k3 j3 k4 j4 k5 j5 k6 j6 k7 j7 k8 j8 k9 j9 k10 j10 k11 j11 k12 j12 k13 j13 k14 j14 k15 j15 k16 j16 k17 j17 k18 j18 k19 j19 k20 j20 k21 j21
  go_wp2_with fail
  go_loopw [5] (fun v3 wr => ∃ i : Nat, v3 = .int .i64 (i : Int) ∧ i ≤ n ∧ Hid (Below w.heap.size w wr ∧ Box wr p 26 (ccL (rowed c A n a)) ∧ Box wr q 26 (ccL (rowed c B n b)) ∧ w.heap.size ≤ p ∧ p < q ∧ True))
      (fun vi _ => n + 1 - (intOf vi).toNat)
  case atStart => exact ⟨0, rfl, by omega, HX2⟩
  case round =>
    obtain ⟨i, rfl, him, HR⟩ := hrel
    clear HX2
    by_cases hi : i < n
    · obtain ⟨b1, o1, hba, ht, hv⟩ := (HT.out.1.below HR.out.1 (Nat.le_refl _)).2 i (by rw [HT.out.2.2]; omega)
      obtain ⟨b2, o2, hbb, ht2, hv2⟩ := (HT.out.2.1.below HR.out.1 (Nat.le_refl _)).2 i (by rw [HT.out.2.2]; omega)
      obtain ⟨f, hf⟩ : ∃ f, (es[i]?.getD (0, 0)).1 = f := ⟨_, rfl⟩
      obtain ⟨t, hte⟩ : ∃ t, (es[i]?.getD (0, 0)).2 = t := ⟨_, rfl⟩
      rw [hf] at ht ht2
      rw [hte] at hv hv2
      have hin : (i : Int) < (n : Int) := by omega
      have k11 : wr.cell? ⟨p, 11, none⟩ = some (.slice A n a) := Box.cell HR.out.2.1 11 rfl
      have j11 : wr.cell? ⟨q, 11, none⟩ = some (.slice B n b) := Box.cell HR.out.2.2.1 11 rfl
      rw [hba] at k11
      rw [hbb] at j11
      have hne := ne61
      clear hf hte hba hbb
      go_upto_region 8 with fail
      go_quiet (fail)
      go_wp2_with fail
      go_roundw
      case rel => exact ⟨i + 1, by go_num, by omega, below_drewN HR.out.1 _, HR.out.2.1.drewN _, HR.out.2.2.1.drewN _, HR.out.2.2.2.1, HR.out.2.2.2.2.1, trivial⟩
      case measure => simp [intOf]; omega
    · have hin : ¬ (i : Int) < (n : Int) := by omega
      have hin2 : decide ((i : Int) < (n : Int)) = false := decide_eq_false hin
      have k11 : wr.cell? ⟨p, 11, none⟩ = some (.slice A n a) := Box.cell HR.out.2.1 11 rfl
      go_wp2_with fail
      go_ret
      exact ⟨rfl, HR.out.1⟩

theorem same8_is (c : Cc) (A B : Option Addr) (a b n : Nat) (es : List Tm) (hn : es.length = n) (w : World) (hA : TimsAt w A es) (hB : TimsAt w B es) : Calls Tryd.prog 10 #[ccv (rowed c A n a), ccv (rowed c B n b)] w fun e w' => e = .returned (.bool true) ∧ Below w.heap.size w w' :=
  same8_in w c A B a b n es (by have h : es.length ≤ 9223372036854775807 := hA.1; omega) ⟨hA, hB, hn⟩
theorem tims_nil (w : World) : TimsAt w none [] := ⟨by simp, fun i hi => by simp at hi⟩
theorem same8_z (w : World) : Calls Tryd.prog 10 #[ccv zC, ccv zC] w fun e w' => e = .returned (.bool true) ∧ Below w.heap.size w w' := same8_is zC none none 0 0 0 [] rfl w (tims_nil w) (tims_nil w)
end Go.Proofs.YtagmighcofllhaaDoor
