/- The walk of BbrStays. -/
import Derived.Test.YtagmighcofllhaaDoorSysM
import Derived.Test.YtagmighcofllhaaDoorSysR
import Derived.Test.YtagmighcofllhaaDoorKHeads
import Derived.Handy
namespace Go.Proofs.YtagmighcofllhaaDoor
open Go.ChangeShapes Go.WideShapes Go.ChangeAt Go.RowKit
set_option linter.unusedVariables false
set_option linter.unusedSimpArgs false

open Fil
theorem range_below {w X : World} {b o : Nat} {cs : List Value} (h : w.rangeAt b o cs) (hb : Below w.heap.size w X) : X.rangeAt b o cs := fun k v hk => by
  have hc := h k v hk
  exact (Below.cell (p := ⟨b, o + k, none⟩) hb (Fil.lt_of_cell hc)).trans hc

set_option maxRecDepth 100000 in
set_option maxHeartbeats 4000000 in
theorem sys_e (w : World) (m f : Int) (A : Option Addr) (n cap : Nat) (hG : Hid (G8 w)) (c1 : ∀ W, Calls Tryd.prog 22 #[.int .i64 m, .int .i64 f] W fun e w' => e = .returned (.tuple #[ccv zC, .int .i64 2]) ∧ Below W.heap.size W w') : Calls Tryd.prog 5 #[.int .i64 m, .int .i64 f, .slice A n cap] w fun e w' => e = .returned (.bool true) ∧ Below w.heap.size w w' := by
  have kh : Hid (∀ W, G8 W → Calls Tryd.prog 19 #[] W fun e w' => e = .returned (.bool true) ∧ Below W.heap.size W w') := heads_any
  go_enter Tryd.func5, Tryd.ntmps5
  go_wp2_with fail
  refine (c1 _).mono ?_
  rintro e w1 ⟨rfl, hB⟩
  have HX1 : Hid (Below w.heap.size w w1 ∧ True) := by
    have hb := Below.refl w.heap.size w
    exact ⟨Below.on hb hB, trivial⟩
  clear hB 
  clear c1
  go_wp2_with (first | (refine wpC_alloc rfl rfl zero26 ?_))
  intro X2 gc HN
  have HX2 : Hid (Below w.heap.size w X2 ∧ Box X2 gc 26 (ccL zC) ∧ w.heap.size ≤ gc ∧ True) := by
    obtain ⟨hb, _⟩ := HX1.out
    obtain ⟨hg, hb2, bn⟩ := HN.out
    have hz := hb.size
    exact ⟨Below.on hb hb2, bn, by omega, trivial⟩
  clear HN HX1
  go_wp2_with (first | (refine wpC_store rfl isC26 rfl rfl rfl rfl (HX2.out.2.1) rfl ?_))
  intro X3 HN
  have HX3 : Hid (Below w.heap.size w X3 ∧ Box X3 gc 26 (ccL zC) ∧ w.heap.size ≤ gc ∧ True) := by
    obtain ⟨hb, b0, l0, _⟩ := HX2.out
    obtain ⟨st, bn⟩ := HN.out
    exact ⟨st.below _ _ (by omega) hb, bn, l0, trivial⟩
  clear HN HX2
  go_wp2_with fail
  refine (kh.out _ (hG.out.below (HX3.out.1))).mono ?_
  rintro e w4 ⟨rfl, hB⟩
  have HX4 : Hid (Below w.heap.size w w4 ∧ Box w4 gc 26 (ccL zC) ∧ w.heap.size ≤ gc ∧ True) := by
    obtain ⟨hb, b0, l0, _⟩ := HX3.out
    exact ⟨Below.on hb hB, b0.later hB, l0, trivial⟩
  clear hB HX3
  go_wp2_with fail
  go_ret
  exact ⟨rfl, HX4.out.1⟩

set_option maxRecDepth 100000 in
set_option maxHeartbeats 4000000 in
theorem sys_l (w : World) (m f : Int) (A : Option Addr) (n cap : Nat) (hn0 : (300 : Int) < (n : Int)) (hn1 : decide ((300 : Int) < (n : Int)) = true) (hG : Hid (G8 w)) (c1 : ∀ W, Calls Tryd.prog 22 #[.int .i64 m, .int .i64 f] W fun e w' => e = .returned (.tuple #[ccv (st8 m f), .int .i64 0]) ∧ Below W.heap.size W w')  : Calls Tryd.prog 5 #[.int .i64 m, .int .i64 f, .slice A n cap] w fun e w' => e = .returned (.bool true) ∧ Below w.heap.size w w' := by
  have kh : Hid (∀ W, G8 W → Calls Tryd.prog 19 #[] W fun e w' => e = .returned (.bool true) ∧ Below W.heap.size W w') := heads_any
  go_enter Tryd.func5, Tryd.ntmps5
  go_wp2_with fail
  refine (c1 _).mono ?_
  rintro e w1 ⟨rfl, hB⟩
  have HX1 : Hid (Below w.heap.size w w1 ∧ True) := by
    have hb := Below.refl w.heap.size w
    exact ⟨Below.on hb hB, trivial⟩
  clear hB 
  clear c1
  go_wp2_with (first | (refine wpC_alloc rfl rfl zero26 ?_))
  intro X2 gc HN
  have HX2 : Hid (Below w.heap.size w X2 ∧ Box X2 gc 26 (ccL zC) ∧ w.heap.size ≤ gc ∧ True) := by
    obtain ⟨hb, _⟩ := HX1.out
    obtain ⟨hg, hb2, bn⟩ := HN.out
    have hz := hb.size
    exact ⟨Below.on hb hb2, bn, by omega, trivial⟩
  clear HN HX1
  go_wp2_with (first | (refine wpC_store rfl isC26 rfl rfl rfl rfl (HX2.out.2.1) rfl ?_))
  intro X3 HN
  have HX3 : Hid (Below w.heap.size w X3 ∧ Box X3 gc 26 (ccL (st8 m f)) ∧ w.heap.size ≤ gc ∧ True) := by
    obtain ⟨hb, b0, l0, _⟩ := HX2.out
    obtain ⟨st, bn⟩ := HN.out
    exact ⟨st.below _ _ (by omega) hb, bn, l0, trivial⟩
  clear HN HX2
  go_wp2_with fail
  refine (kh.out _ (hG.out.below (HX3.out.1))).mono ?_
  rintro e w4 ⟨rfl, hB⟩
  have HX4 : Hid (Below w.heap.size w w4 ∧ Box w4 gc 26 (ccL (st8 m f)) ∧ w.heap.size ≤ gc ∧ True) := by
    obtain ⟨hb, b0, l0, _⟩ := HX3.out
    exact ⟨Below.on hb hB, b0.later hB, l0, trivial⟩
  clear hB HX3
  go_wp2_with fail
  go_ret
  exact ⟨rfl, HX4.out.1⟩

set_option maxRecDepth 100000 in
set_option maxHeartbeats 4000000 in
theorem sys_y (w : World) (m f : Int) (A : Option Addr) (n cap : Nat) (l : List Sm) (hn0 : ¬ (300 : Int) < (n : Int)) (hn1 : decide ((300 : Int) < (n : Int)) = false) (HT : Hid (SmsAt w A l ∧ l.length = n)) (HN : Hid (newB m f = true ∧ n ≤ 300)) (hG : Hid (G8 w)) (c1 : ∀ W, Calls Tryd.prog 22 #[.int .i64 m, .int .i64 f] W fun e w' => e = .returned (.tuple #[ccv (st8 m f), .int .i64 0]) ∧ Below W.heap.size W w')  : Calls Tryd.prog 5 #[.int .i64 m, .int .i64 f, .slice A n cap] w fun e w' => e = .returned (.bool true) ∧ Below w.heap.size w w' := by
  have kh : Hid (∀ W, G8 W → Calls Tryd.prog 19 #[] W fun e w' => e = .returned (.bool true) ∧ Below W.heap.size W w') := heads_any
  go_enter Tryd.func5, Tryd.ntmps5
  go_wp2_with fail
  refine (c1 _).mono ?_
  rintro e w1 ⟨rfl, hB⟩
  have HX1 : Hid (Below w.heap.size w w1 ∧ True) := by
    have hb := Below.refl w.heap.size w
    exact ⟨Below.on hb hB, trivial⟩
  clear hB 
  clear c1
  go_wp2_with (first | (refine wpC_alloc rfl rfl zero26 ?_))
  intro X2 gc HN
  have HX2 : Hid (Below w.heap.size w X2 ∧ Box X2 gc 26 (ccL zC) ∧ w.heap.size ≤ gc ∧ True) := by
    obtain ⟨hb, _⟩ := HX1.out
    obtain ⟨hg, hb2, bn⟩ := HN.out
    have hz := hb.size
    exact ⟨Below.on hb hb2, bn, by omega, trivial⟩
  clear HN HX1
  go_wp2_with (first | (refine wpC_store rfl isC26 rfl rfl rfl rfl (HX2.out.2.1) rfl ?_))
  intro X3 HN
  have HX3 : Hid (Below w.heap.size w X3 ∧ Box X3 gc 26 (ccL (st8 m f)) ∧ w.heap.size ≤ gc ∧ True) := by
    obtain ⟨hb, b0, l0, _⟩ := HX2.out
    obtain ⟨st, bn⟩ := HN.out
    exact ⟨st.below _ _ (by omega) hb, bn, l0, trivial⟩
  clear HN HX2
  go_wp2_with fail
  go_loopw [9, 10] (fun v9 v10 wr => ∃ (i : Nat) (d : Cc) (fs : List Tm) (M : Int), v9 = .int .i64 M ∧ v10 = .int .i64 (i : Int) ∧ Hid (i ≤ n ∧ SysI m i M d fs) ∧ Hid (Below w.heap.size w wr ∧ Box wr gc 26 (ccL d) ∧ w.heap.size ≤ gc ∧ Fil.RowT wr 0 d.ba d.bn d.bc fs ∧ True))
      (fun _ vi _ => n + 1 - (intOf vi).toNat)
  case atStart => exact ⟨0, st8 m f, [], 0, rfl, rfl, ⟨by omega, sys_new HN.out.1⟩, ⟨HX3.out.1, (HX3.out.2.1), HX3.out.2.2.1, Fil.RowT.nil _ _, trivial⟩⟩
  case round =>
    obtain ⟨i, d, fs, M, rfl, rfl, HI, HR⟩ := hrel
    clear HX3
    by_cases hi : i < n
    · have hin : (i : Int) < (n : Int) := by omega
      have hin2 : decide ((i : Int) < (n : Int)) = true := decide_eq_true hin
      obtain ⟨b, o, rfl, hr⟩ := (HT.out.1.below HR.out.1).2 i (by rw [HT.out.2]; exact hi)
      obtain ⟨s, hs⟩ : ∃ s, nthS l i = s := ⟨_, rfl⟩
      rw [hs] at hr
      have hgc : gc < wr.heap.size := HR.out.2.1.lt
      have hsz : d.bn * 16 ≤ 140737488351232 := by
        have e : fs.length = d.bn := Fil.RowT.len HR.out.2.2.2.1
        have := HI.out.2.len
        have := HN.out.2
        omega
      have hrng : ∀ W, Below wr.heap.size wr W → W.rangeAt b (o + i * 8) (smL s) := fun W hW => range_below hr hW
      clear hs
      cases k2 : smB s with
      | true =>
        obtain ⟨hstep, hrd, hcw⟩ := sys_step HI.out.2 k2
        have c8 : ∀ W, Below wr.heap.size wr W → _ := fun W hW => ackR d fs s _ _ _ HI.out.2.ok k2 hsz rfl rfl rfl W (Fil.RowT.later HR.out.2.2.2.1 hW)
        obtain ⟨D2, hD2⟩ : ∃ D, ack8 d fs s = D := ⟨_, rfl⟩
        obtain ⟨fs2, hfs2⟩ : ∃ D, bw8 d fs s = D := ⟨_, rfl⟩
        obtain ⟨L, hL⟩ : ∃ L, fs2.length = L := ⟨_, rfl⟩
        rw [hD2, hfs2] at hstep
        rw [hD2] at hrd hcw
        simp only [hD2, hfs2, hL] at c8
        obtain ⟨M2, hM2⟩ : ∃ M2, max M (min s.rr 1099511627776) = M2 := ⟨_, rfl⟩
        rw [hM2] at hstep
        have HST : Hid (SysI m (i + 1) M2 D2 fs2 ∧ fs2.length = L) := ⟨hstep, hL⟩
        have mn : (if 1099511627776 < s.rr then 1099511627776 else s.rr) = min s.rr 1099511627776 := by split <;> omega
        obtain ⟨z, hz⟩ : ∃ z, min s.rr 1099511627776 = z := ⟨_, rfl⟩
        rw [hz] at mn hM2
        have mx : (if M < z then z else M) = M2 := by split <;> omega
        have e1 : decide (D2.cw < m) = false := decide_eq_false (by omega)
        have e2 : decide (D2.rd < d.rd) = false := decide_eq_false (by omega)
        have e3 : decide (M2 < bestV fs2) = false := decide_eq_false (by have := hstep.best; omega)
        have c11 : ∀ (va : Option Addr) (vj : Nat) W, Fil.RowT W 0 va L vj fs2 → Calls Tryd.prog 11 #[ccv (rowed D2 va L vj)] W fun e w' => e = .returned (.int .i64 0) ∧ Below W.heap.size W w' := fun va vj W hW => chk8_ok (rowed D2 va L vj) fs2 (ok8_cci (ok8_out (HST.out.1.rowed va L vj).ok).1 (by have := HST.out.1.len; have := HST.out.2; have := HN.out.2; show L ≤ _; omega)) HST.out.2 (HST.out.1.rowed va L vj).ok W hW.tims
        have c13 : ∀ (va : Option Addr) (vj : Nat) W, Fil.RowT W 0 va L vj fs2 → Calls Tryd.prog 13 #[ccv (rowed D2 va L vj)] W fun e w' => e = .returned (.int .i64 (bestV fs2)) ∧ Below W.heap.size W w' := fun va vj W hW => by
          have := bw8_is (rowed D2 va L vj) fs2 (ok8_cci (ok8_out (HST.out.1.rowed va L vj).ok).1 (by have := HST.out.1.len; have := HST.out.2; have := HN.out.2; show L ≤ _; omega)) HST.out.2 W hW.tims
          rw [show bwR (rowed D2 va L vj) fs2 = bestV fs2 from if_pos (HST.out.1.rowed va L vj).ok] at this
          exact this
        clear hstep hrd hcw hD2 hfs2 hL hM2 hz
        go_upto_region 8 with fail
        refine syg_reg (by rfl) d D2 s fs2 L i n cap gc b o rfl rfl rfl HR.out.2.1 rfl hgc hin hrng c8 ?_
        intro c T X41 hT9 hT11 hS
        simp only [Act.put, List.setIfInBounds_toArray, List.set_cons_zero, List.set_cons_succ]
        simp only [hT9, hT11]
        obtain ⟨gd, hgd⟩ : ∃ g, c 9 = g := ⟨_, rfl⟩
        obtain ⟨va, hva⟩ : ∃ g, decA (c 101) (c 102) = g := ⟨_, rfl⟩
        obtain ⟨vj, hvj⟩ : ∃ g, c 100 = g := ⟨_, rfl⟩
        rw [hgd, hva, hvj] at hS
        simp only [hgd]
        have hr2 := hrng X41 hS.1
        have j3 : X41.cell? ⟨b, o + i * 8 + 3, none⟩ = some (.int .i64 s.rr) := hr2 3 _ rfl
        have j3b : X41.cell? ⟨b, o + (i * 8 + 3), none⟩ = some (.int .i64 s.rr) := by rw [← Nat.add_assoc]; exact j3
        have HX41 : Hid (Below w.heap.size w X41 ∧ Box X41 gc 26 (ccL d) ∧ Box X41 gd 26 (ccL (rowed D2 va L vj)) ∧ w.heap.size ≤ gc ∧ gc < gd ∧ Fil.RowT X41 0 va L vj fs2 ∧ True) := by
          obtain ⟨hb, b0, l0, r0, _⟩ := HR.out
          exact ⟨Below.on hb hS.1, hS.2.1, (hS.2.2.2.1 rfl).2, l0, (by have := (hS.2.2.2.1 rfl).1; omega), hS.2.2.1 rfl, trivial⟩
        clear hS hT9 hT11 hgd hva hvj hr2 hrng c8 hr hsz hgc HR
        go_upto_region 12 with fail
        clear j3 j3b
        go_wp2_with (first | (refine wpC_load rfl isC26 rfl rfl (HX41.out.2.2.1) ?_) | fail)
        refine (c11 va vj _ (HX41.out.2.2.2.2.2.1)).mono ?_
        rintro e w42 ⟨rfl, hB⟩
        have HX42 : Hid (Below w.heap.size w w42 ∧ Box w42 gc 26 (ccL d) ∧ Box w42 gd 26 (ccL (rowed D2 va L vj)) ∧ w.heap.size ≤ gc ∧ gc < gd ∧ Fil.RowT w42 0 va L vj fs2 ∧ True) := by
          obtain ⟨hb, b0, b1, l0, l1, r0, _⟩ := HX41.out
          exact ⟨Below.on hb hB, b0.later hB, b1.later hB, l0, l1, r0.later hB, trivial⟩
        clear hB HX41
        clear c11
        have k2 : w42.cell? ⟨gd, 2, none⟩ = some (.int .i64 D2.cw) := Box.cell (HX42.out.2.2.1) 2 rfl
        have k14 : w42.cell? ⟨gd, 14, none⟩ = some (.int .i64 D2.rd) := Box.cell (HX42.out.2.2.1) 14 rfl
        have m14 : w42.cell? ⟨gc, 14, none⟩ = some (.int .i64 d.rd) := Box.cell (HX42.out.2.1) 14 rfl
        go_wp2_with (first | (refine wpC_loadG (by rfl) isC26 rfl rfl (HX42.out.2.2.1) ?_) | fail)
        refine (c13 va vj _ (HX42.out.2.2.2.2.2.1)).mono ?_
        rintro e w43 ⟨rfl, hB⟩
        have HX43 : Hid (Below w.heap.size w w43 ∧ Box w43 gc 26 (ccL d) ∧ Box w43 gd 26 (ccL (rowed D2 va L vj)) ∧ w.heap.size ≤ gc ∧ gc < gd ∧ Fil.RowT w43 0 va L vj fs2 ∧ True) := by
          obtain ⟨hb, b0, b1, l0, l1, r0, _⟩ := HX42.out
          exact ⟨Below.on hb hB, b0.later hB, b1.later hB, l0, l1, r0.later hB, trivial⟩
        clear hB HX42
        clear c13 k14 m14
        go_upto_region 14 with fail
        go_wp2_with (first | (refine wpC_load rfl isC26 rfl rfl (HX43.out.2.2.1) ?_) | (refine wpC_store rfl isC26 rfl rfl rfl rfl (HX43.out.2.1) rfl ?_))
        intro X44 HN
        have HX44 : Hid (Below w.heap.size w X44 ∧ Box X44 gc 26 (ccL (rowed D2 va L vj)) ∧ Box X44 gd 26 (ccL (rowed D2 va L vj)) ∧ w.heap.size ≤ gc ∧ gc < gd ∧ Fil.RowT X44 0 va L vj fs2 ∧ True) := by
          obtain ⟨hb, b0, b1, l0, l1, r0, _⟩ := HX43.out
          obtain ⟨st, bn⟩ := HN.out
          exact ⟨st.below _ _ (by omega) hb, bn, b1.sto st (by omega), l0, l1, r0.sto b0 (by decide) st, trivial⟩
        clear HN HX43
        go_wp2_with fail
        go_roundw
        case rel => exact ⟨i + 1, rowed D2 va L vj, fs2, M2, by first | rfl | simp [mx], by go_num, ⟨by omega, HST.out.1.rowed va L vj⟩, ⟨HX44.out.1, (HX44.out.2.1), HX44.out.2.2.2.1, (HX44.out.2.2.2.2.2.1), trivial⟩⟩
        case measure => simp [intOf]; omega
      | false =>
        have c8 : ∀ W, Below wr.heap.size wr W → Calls Tryd.prog 8 #[ccv d, agv (smL s)] W fun e w' => e = .returned (.tuple #[ccv zC, .int .i64 2]) ∧ Below W.heap.size W w' := fun W hW => by
          have := ack_bad d fs s (ok8_cci (ok8_out HI.out.2.ok).1 (by omega)) (by rw [k2]; simp) W (RowIn.of (Fil.RowT.later HR.out.2.2.2.1 hW) hsz)
          rw [ackX_sm HI.out.2.ok k2] at this
          exact this
        go_upto_region 8 with fail
        refine syb_reg (by rfl) d s i n cap gc b o rfl rfl rfl HR.out.2.1 rfl hgc hin hrng c8 ?_
        intro c T X61 hT9 hT11 hS
        simp only [Act.put, List.setIfInBounds_toArray, List.set_cons_zero, List.set_cons_succ]
        simp only [hT9, hT11]
        have HX61 : Hid (Below w.heap.size w X61 ∧ Box X61 gc 26 (ccL d) ∧ w.heap.size ≤ gc ∧ True) := by
          obtain ⟨hb, b0, l0, r0, _⟩ := HR.out
          exact ⟨Below.on hb hS.1, hS.2.1, l0, trivial⟩
        clear hS hT9 hT11 hrng c8 hr hsz hgc HR
        go_wp2_with fail
        refine (kh.out _ (hG.out.below (HX61.out.1))).mono ?_
        rintro e w62 ⟨rfl, hB⟩
        have HX62 : Hid (Below w.heap.size w w62 ∧ Box w62 gc 26 (ccL d) ∧ w.heap.size ≤ gc ∧ True) := by
          obtain ⟨hb, b0, l0, _⟩ := HX61.out
          exact ⟨Below.on hb hB, b0.later hB, l0, trivial⟩
        clear hB HX61
        go_wp2_with fail
        go_ret
        exact ⟨rfl, HX62.out.1⟩
    · skip
      have hin : ¬ (i : Int) < (n : Int) := by omega
      have hin2 : decide ((i : Int) < (n : Int)) = false := decide_eq_false hin
      go_wp2_with fail
      refine (kh.out _ (hG.out.below (HR.out.1))).mono ?_
      rintro e w81 ⟨rfl, hB⟩
      have HX81 : Hid (Below w.heap.size w w81 ∧ Box w81 gc 26 (ccL d) ∧ w.heap.size ≤ gc ∧ Fil.RowT w81 0 d.ba d.bn d.bc fs ∧ True) := by
        obtain ⟨hb, b0, l0, r0, _⟩ := HR.out
        exact ⟨Below.on hb hB, b0.later hB, l0, r0.later hB, trivial⟩
      clear hB HR
      go_wp2_with fail
      go_ret
      exact ⟨rfl, HX81.out.1⟩

theorem stays_walk (m f : Int) (A : Option Addr) (n cap : Nat) (l : List Sm) (w : World) (_ : I64 m) (_ : I64 f) (hT : SmsAt w A l) (hn : l.length = n) (hG : G8 w) : Calls Tryd.prog 5 #[.int .i64 m, .int .i64 f, .slice A n cap] w fun e w' => e = .returned (.bool true) ∧ Below w.heap.size w w' := by
  have c1 := fun W => knw8_is m f W
  unfold new8 newE at c1
  by_cases hb : newB m f = true
  · rw [if_pos hb, if_pos hb] at c1
    by_cases h : n ≤ 300
    · exact sys_y w m f A n cap l (by omega) (decide_eq_false (by omega)) ⟨hT, hn⟩ ⟨hb, h⟩ hG c1
    · exact sys_l w m f A n cap (by omega) (decide_eq_true (by omega)) hG c1
  · rw [if_neg hb, if_neg hb] at c1
    exact sys_e w m f A n cap hG c1
end Go.Proofs.YtagmighcofllhaaDoor
