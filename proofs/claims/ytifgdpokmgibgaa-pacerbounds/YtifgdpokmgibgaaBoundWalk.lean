/- The walk of PacerBounds. -/
import Derived.Test.YtifgdpokmgibgaaHeads
import Derived.Test.YtifgdpokmgibgaaBoundR
import Derived.Test.YtifgdpokmgibgaaBoundP
import Derived.Test.YtifgdpokmgibgaaTims
import Derived.Lib.AppendZeros
namespace Go.Proofs.Ytifgdpokmgibgaa
open Go.ChangeShapes Go.WideShapes Go.ChangeAt Go.RowKit Go.Shelf
set_option linter.unusedVariables false
set_option linter.unusedSimpArgs false
attribute [local go_sem] Oper.semAt_some


set_option maxRecDepth 100000 in
set_option maxHeartbeats 4000000 in
theorem bounds_main (rate burst : Int) (hrt : 1 ≤ rate ∧ rate ≤ 1073741824) (hbt : 1 ≤ burst ∧ burst ≤ 1048576) (A : Option Addr) (cap : Nat) (ts : List Tm) (hlen : ts.length ≤ 200) (hd : ∀ W, Calls Try.prog 9 #[] W fun e w' => e = .returned (.bool true) ∧ Below W.heap.size W w') (w : World) (hT : TimsAt w A ts) : Calls Try.prog 5 #[.int .i64 rate, .int .i64 burst, .slice A ts.length cap] w fun e w' => e = .returned (.bool true) ∧ Below w.heap.size w w' := by
  obtain ⟨n, hn⟩ : ∃ n, ts.length = n := ⟨_, rfl⟩
  have HN : Hid (ts.length = n) := hn
  have HT : Hid (TimsAt w A ts) := hT
  rw [hn] at hlen ⊢
  clear hn hT
  have d0 : decide (rate < 1) = false := decide_eq_false (by omega)
  have d1 : decide (1073741824 < rate) = false := decide_eq_false (by omega)
  have d2 : decide (burst < 1) = false := decide_eq_false (by omega)
  have d3 : decide (1048576 < burst) = false := decide_eq_false (by omega)
  have d4 : decide ((200 : Int) < (n : Int)) = false := decide_eq_false (by omega)
  have hok0 : Ok ⟨rate, burst, burst * 1000000, 0⟩ := ⟨⟨hrt.1, by show rate ≤ 1099511627776; omega⟩, ⟨hbt.1, by show burst ≤ 1073741824; omega⟩, ⟨by show -1073741824000000 ≤ burst * 1000000; omega, Int.le_refl _⟩, ⟨Int.le_refl _, by show (0 : Int) ≤ 1125899906842624; omega⟩⟩
  have hnb : newB rate burst 0 = true := by unfold newB; rw [Bool.and_eq_true]; exact ⟨decide_eq_true ⟨hrt.1, by omega⟩, decide_eq_true ⟨⟨hbt.1, by omega⟩, by omega⟩⟩
  have c0 : ∀ W, Calls Try.prog 21 #[.int .i64 rate, .int .i64 burst, .int .i64 0] W fun e w' => e = .returned (.tuple #[agv (pcL ⟨rate, burst, burst * 1000000, 0⟩), .int .i64 0]) ∧ Below W.heap.size W w' := fun W => new_is rate burst 0 (by unfold newQ; rw [if_pos hnb]; rfl) (by unfold newE; rw [if_pos hnb]) W
  have HOK : Hid (Ok ⟨rate, burst, burst * 1000000, 0⟩) := hok0
  clear hok0 hnb
  go_enter Try.func5, Try.ntmps5
  go_wp2_with fail
  refine (c0 _).mono ?_
  rintro e w1 ⟨rfl, hB⟩
  have HX1 : Hid (Below w.heap.size w w1 ∧ True) := by
    have hb := Below.refl w.heap.size w
    exact ⟨Below.on hb hB, trivial⟩
  clear hB 
  go_wp2_with (first | (refine wpS_alloc rfl rfl zero23 ?_))
  intro X2 gp HN
  have HX2 : Hid (Below w.heap.size w X2 ∧ Box X2 gp 23 (pcL pcZ) ∧ w.heap.size ≤ gp ∧ True) := by
    obtain ⟨hb, _⟩ := HX1.out
    obtain ⟨hg, hb2, bn⟩ := HN.out
    have hz := hb.size
    exact ⟨Below.on hb hb2, bn, by omega, trivial⟩
  clear HN HX1
  go_wp2_with (first | (refine wpS_store rfl rfl rfl rfl rfl (HX2.out.2.1) rfl isS23 (pcL_one _) ?_))
  intro X3 HN
  have HX3 : Hid (Below w.heap.size w X3 ∧ Box X3 gp 23 (pcL ⟨rate, burst, burst * 1000000, 0⟩) ∧ w.heap.size ≤ gp ∧ True) := by
    obtain ⟨hb, b0, l0, _⟩ := HX2.out
    obtain ⟨st, bn⟩ := HN.out
    exact ⟨st.below _ _ (by omega) hb, bn, l0, trivial⟩
  clear HN HX2
  clear d0 d1 d2 d3 d4 c0
  go_wp2_with fail
  go_loopw [9, 10, 11, 12] (fun v9 v10 v11 v12 wr => ∃ (i q tc sc : Nat) (ta sa : Option Addr) (nw tk : Int) (Tl Sl : List Int), v9 = .int .i64 nw ∧ v10 = .slice ta q tc ∧ v11 = .slice sa q sc ∧ v12 = .int .i64 i ∧ i ≤ n ∧ q ≤ i ∧ 0 ≤ nw ∧ nw ≤ (i : Int) * 1048576 ∧ Hid (Led rate burst tk nw Tl Sl ∧ Tl.length = q ∧ Ok ⟨rate, burst, tk, nw⟩) ∧ Hid (Below w.heap.size w wr ∧ Box wr gp 23 (pcL ⟨rate, burst, tk, nw⟩) ∧ w.heap.size ≤ gp ∧ Two wr w.heap.size ta tc sa sc q Tl Sl ∧ True))
    (fun _ _ _ v12 _ => n - (intOf v12).toNat)
  case atStart => exact ⟨0, 0, 0, 0, none, none, 0, burst * 1000000, [], [], rfl, rfl, rfl, rfl, Nat.zero_le _, Nat.le_refl _, Int.le_refl _, by omega, ⟨led_nil _ _ _ _, rfl, HOK.out⟩, HX3.out.1, HX3.out.2.1, HX3.out.2.2.1, Two.nil _ _, trivial⟩
  case round =>
    obtain ⟨i, q, tc, sc, ta, sa, nw, tk, Tl, Sl, rfl, rfl, rfl, rfl, hin, hqi, hn0, hn1, HF, HR⟩ := hrel
    clear HX3 HOK
    by_cases hlt : i < n
    · have hi' : i < ts.length := by have := HN.out; omega
      obtain ⟨xb, xo, rfl, hc0, hc1⟩ := HT.out.2 i hi'
      obtain ⟨x, hx⟩ : ∃ x, ts[i]?.getD (0, 0) = x := ⟨_, rfl⟩
      rw [hx] at hc0 hc1
      have HX : Hid (∀ U, Below w.heap.size w U → U.cell? ⟨xb, xo + i * 2, none⟩ = some (.int .i64 x.1) ∧ U.cell? ⟨xb, xo + i * 2 + 1, none⟩ = some (.int .i64 x.2)) := fun U hU =>
        ⟨(hU.cell (p := ⟨xb, xo + i * 2, none⟩) (lt_of_cell hc0)).trans hc0, (hU.cell (p := ⟨xb, xo + i * 2 + 1, none⟩) (lt_of_cell hc1)).trans hc1⟩
      obtain ⟨hw0, hw1⟩ := HX.out wr HR.out.1
      have hlt' : (i : Int) < (n : Int) := by omega
      clear hx hi' hc0 hc1
      by_cases h1 : x.1 < 0
      · skip
        go_wp2_with fail
        refine (hd _).mono ?_
        rintro e w41 ⟨rfl, hB⟩
        have HX41 : Hid (Below w.heap.size w w41 ∧ Box w41 gp 23 (pcL ⟨rate, burst, tk, nw⟩) ∧ w.heap.size ≤ gp ∧ Two w41 w.heap.size ta tc sa sc q Tl Sl ∧ True) := by
          obtain ⟨hb, b0, l0, rr, _⟩ := HR.out
          exact ⟨Below.on hb hB, b0.later hB, l0, rr.later hB, trivial⟩
        clear hB HR
        go_wp2_with fail
        go_ret
        exact ⟨rfl, HX41.out.1⟩
      by_cases h2 : 1048576 < x.1
      · skip
        go_wp2_with fail
        refine (hd _).mono ?_
        rintro e w41 ⟨rfl, hB⟩
        have HX41 : Hid (Below w.heap.size w w41 ∧ Box w41 gp 23 (pcL ⟨rate, burst, tk, nw⟩) ∧ w.heap.size ≤ gp ∧ Two w41 w.heap.size ta tc sa sc q Tl Sl ∧ True) := by
          obtain ⟨hb, b0, l0, rr, _⟩ := HR.out
          exact ⟨Below.on hb hB, b0.later hB, l0, rr.later hB, trivial⟩
        clear hB HR
        go_wp2_with fail
        go_ret
        exact ⟨rfl, HX41.out.1⟩
      by_cases h3 : x.2 < 0
      · skip
        go_wp2_with fail
        refine (hd _).mono ?_
        rintro e w41 ⟨rfl, hB⟩
        have HX41 : Hid (Below w.heap.size w w41 ∧ Box w41 gp 23 (pcL ⟨rate, burst, tk, nw⟩) ∧ w.heap.size ≤ gp ∧ Two w41 w.heap.size ta tc sa sc q Tl Sl ∧ True) := by
          obtain ⟨hb, b0, l0, rr, _⟩ := HR.out
          exact ⟨Below.on hb hB, b0.later hB, l0, rr.later hB, trivial⟩
        clear hB HR
        go_wp2_with fail
        go_ret
        exact ⟨rfl, HX41.out.1⟩
      by_cases h4 : 1048576 < x.2
      · skip
        go_wp2_with fail
        refine (hd _).mono ?_
        rintro e w41 ⟨rfl, hB⟩
        have HX41 : Hid (Below w.heap.size w w41 ∧ Box w41 gp 23 (pcL ⟨rate, burst, tk, nw⟩) ∧ w.heap.size ≤ gp ∧ Two w41 w.heap.size ta tc sa sc q Tl Sl ∧ True) := by
          obtain ⟨hb, b0, l0, rr, _⟩ := HR.out
          exact ⟨Below.on hb hB, b0.later hB, l0, rr.later hB, trivial⟩
        clear hB HR
        go_wp2_with fail
        go_ret
        exact ⟨rfl, HX41.out.1⟩
      obtain ⟨nx, hnx⟩ : ∃ z, nw + x.1 = z := ⟨_, rfl⟩
      have hs1 : IntKind.i64.wrap (nw + x.1) = nx := by rw [IntKind.wrap_i64]; omega
      have hin2 : nw ≤ nx ∧ nx ≤ 1125899906842624 := by omega
      obtain ⟨tf, htf⟩ : ∃ z, fillT ⟨rate, burst, tk, nw⟩ nx = z := ⟨_, rfl⟩
      have hfo := fill_ok (p := ⟨rate, burst, tk, nw⟩) HF.out.2.2 hin2
      have hld := led_fill HF.out.1 (show 0 ≤ rate by omega) hin2.1
      rw [htf] at hfo hld
      have c1 : ∀ W, Calls Try.prog 8 #[agv (pcL ⟨rate, burst, tk, nw⟩), .int .i64 nx] W fun e w' => e = .returned (.tuple #[agv (pcL ⟨rate, burst, tf, nx⟩), .int .i64 0]) ∧ Below W.heap.size W w' := fun W => fll_is _ _ (by
        unfold fllQ; rw [if_pos (ok_in HF.out.2.2), if_pos (show inB ⟨rate, burst, tk, nw⟩ nx = true from decide_eq_true hin2), htf]) (by
        unfold fllE; rw [if_pos (ok_in HF.out.2.2), if_pos (show inB ⟨rate, burst, tk, nw⟩ nx = true from decide_eq_true hin2)]) W
      have HF2 : Hid (Led rate burst tf nx Tl Sl ∧ Tl.length = q ∧ Ok ⟨rate, burst, tf, nx⟩) := ⟨hld, HF.out.2.1, hfo.2.2⟩
      have hnx0 : 0 ≤ nx ∧ nx ≤ ((i + 1 : Nat) : Int) * 1048576 := by omega
      have hv : 0 ≤ x.2 ∧ x.2 ≤ 1048576 := by omega
      clear hfo hld htf hnx HF hin2 hn0 hn1
      go_wp2_with (first | (refine wpS_load rfl rfl rfl (HR.out.2.1) isS23 ?_) | fail)
      refine (c1 _).mono ?_
      rintro e w11 ⟨rfl, hB⟩
      have HX11 : Hid (Below w.heap.size w w11 ∧ Box w11 gp 23 (pcL ⟨rate, burst, tk, nw⟩) ∧ w.heap.size ≤ gp ∧ Two w11 w.heap.size ta tc sa sc q Tl Sl ∧ True) := by
        obtain ⟨hb, b0, l0, rr, _⟩ := HR.out
        exact ⟨Below.on hb hB, b0.later hB, l0, rr.later hB, trivial⟩
      clear hB HR
      go_wp2_with (first | (refine wpS_alloc rfl rfl zero23 ?_))
      intro X12 gq HN
      have HX12 : Hid (Below w.heap.size w X12 ∧ Box X12 gp 23 (pcL ⟨rate, burst, tk, nw⟩) ∧ Box X12 gq 23 (pcL pcZ) ∧ w.heap.size ≤ gp ∧ gp < gq ∧ Two X12 w.heap.size ta tc sa sc q Tl Sl ∧ True) := by
        obtain ⟨hb, b0, l0, rr, _⟩ := HX11.out
        obtain ⟨hg, hb2, bn⟩ := HN.out
        have z0 := b0.lt
        exact ⟨Below.on hb hb2, b0.later hb2, bn, l0, by omega, rr.later hb2, trivial⟩
      clear HN HX11
      go_wp2_with (first | (refine wpS_store rfl rfl rfl rfl rfl (HX12.out.2.2.1) rfl isS23 (pcL_one _) ?_))
      intro X13 HN
      have HX13 : Hid (Below w.heap.size w X13 ∧ Box X13 gp 23 (pcL ⟨rate, burst, tk, nw⟩) ∧ Box X13 gq 23 (pcL ⟨rate, burst, tf, nx⟩) ∧ w.heap.size ≤ gp ∧ gp < gq ∧ Two X13 w.heap.size ta tc sa sc q Tl Sl ∧ True) := by
        obtain ⟨hb, b0, b1, l0, l1, rr, _⟩ := HX12.out
        obtain ⟨st, bn⟩ := HN.out
        exact ⟨st.below _ _ (by omega) hb, b0.sto st (by omega), bn, l0, l1, rr.sto b1 st, trivial⟩
      clear HN HX12
      go_wp2_with (first | (refine wpS_load rfl rfl rfl (HX13.out.2.2.1) isS23 ?_) | (refine wpS_store rfl rfl rfl rfl rfl (HX13.out.2.1) rfl isS23 (pcL_one _) ?_))
      intro X14 HN
      have HX14 : Hid (Below w.heap.size w X14 ∧ Box X14 gp 23 (pcL ⟨rate, burst, tf, nx⟩) ∧ Box X14 gq 23 (pcL ⟨rate, burst, tf, nx⟩) ∧ w.heap.size ≤ gp ∧ gp < gq ∧ Two X14 w.heap.size ta tc sa sc q Tl Sl ∧ True) := by
        obtain ⟨hb, b0, b1, l0, l1, rr, _⟩ := HX13.out
        obtain ⟨st, bn⟩ := HN.out
        exact ⟨st.below _ _ (by omega) hb, bn, b1.sto st (by omega), l0, l1, rr.sto b0 st, trivial⟩
      clear HN HX13
      have HX15 : Hid (Below w.heap.size w X14 ∧ Box X14 gp 23 (pcL ⟨rate, burst, tf, nx⟩) ∧ w.heap.size ≤ gp ∧ Two X14 w.heap.size ta tc sa sc q Tl Sl ∧ True) := by
        obtain ⟨hb, b0, b1, l0, l1, rr, _⟩ := HX14.out
        exact ⟨hb, b0, l0, rr, trivial⟩
      clear  HX14
      clear c1 hw0 hw1 hs1
      go_upto_region 19 with fail
      obtain ⟨mb, hmb⟩ : ∃ b, mayB ⟨rate, burst, tf, nx⟩ x.2 = b := ⟨_, rfl⟩
      have c2 := fun W => may_is ⟨rate, burst, tf, nx⟩ x.2 hmb W
      cases mb with
      | false =>
        clear hmb
        refine bd19_reg (by rfl) ⟨rate, burst, tf, nx⟩ xb xo i n cap q tc sc ta sa Tl Sl x.2 false gp w.heap.size w rfl rfl rfl HX15.out.2.2.1 ⟨HX15.out.1, HX15.out.2.1, HX15.out.2.2.2.1, trivial⟩ hlt' (fun U hU => (HX.out U hU).2) c2 ?_
        intro T X30 hT hS
        simp only [Act.put, List.setIfInBounds_toArray, List.set_cons_zero, List.set_cons_succ]
        simp only [hT]
        have HY : Hid (Below w.heap.size w X30 ∧ Box X30 gp 23 (pcL ⟨rate, burst, tf, nx⟩) ∧ w.heap.size ≤ gp ∧ Two X30 w.heap.size ta tc sa sc q Tl Sl ∧ True) := ⟨hS.1, hS.2.1, HX15.out.2.2.1, hS.2.2.1, trivial⟩
        clear hS hT c2 HX15
        go_wp2_with fail
        go_roundw
        case rel => exact ⟨i + 1, q, tc, sc, ta, sa, nx, tf, Tl, Sl, rfl, rfl, rfl, by go_num, by omega, by omega, hnx0.1, hnx0.2, HF2.out, HY.out⟩
        case measure => simp [intOf]; omega
      | true =>
        have htk := hmb
        have hof := HF2.out.2.2
        have c3 : ∀ W, Calls Try.prog 11 #[agv (pcL ⟨rate, burst, tf, nx⟩), .int .i64 x.2] W fun e w' => e = .returned (.tuple #[agv (pcL ⟨rate, burst, tf - x.2 * 1000000, nx⟩), .int .i64 0]) ∧ Below W.heap.size W w' := fun W => tke_is _ _ (by
          unfold tkeQ; rw [if_pos (ok_in hof), if_pos hmb]) (by unfold tkeE; rw [if_pos (ok_in hof), if_pos hmb]) W
        have hbnd : x.2 * 1000000 ≤ tf ∨ tf = burst * 1000000 := by
          unfold mayB at htk
          simp only [Bool.and_eq_true, Bool.or_eq_true, decide_eq_true_eq] at htk
          exact htk.2.2
        have hok3 : Ok ⟨rate, burst, tf - x.2 * 1000000, nx⟩ := by
          obtain ⟨k1, k2, k3, k4⟩ := hof
          simp only at k1 k2 k3 k4
          exact ⟨k1, k2, ⟨by show -1073741824000000 ≤ tf - x.2 * 1000000; omega, by show tf - x.2 * 1000000 ≤ burst * 1000000; omega⟩, k4⟩
        have hld3 := led_take HF2.out.1 hof.2.2.1.2 hv hnx0.1
        have HF3 : Hid (Led rate burst (tf - x.2 * 1000000) nx (Tl ++ [nx]) (Sl ++ [x.2]) ∧ (Tl ++ [nx]).length = q + 1 ∧ Ok ⟨rate, burst, tf - x.2 * 1000000, nx⟩) := ⟨hld3, by simp [HF2.out.2.1], hok3⟩
        have HBD : Hid (x.2 * 1000000 ≤ tf ∨ tf = burst * 1000000) := hbnd
        have HLS : Hid (at0 (Sl ++ [x.2]) q = x.2) := by
          have h1 := HF2.out.1.len
          have h2 := HF2.out.2.1
          have h3 := at0_new Sl x.2
          rwa [h1, h2] at h3
        clear htk hof hbnd hok3 hld3 HF2 hmb
        refine bd19_reg (by rfl) ⟨rate, burst, tf, nx⟩ xb xo i n cap q tc sc ta sa Tl Sl x.2 true gp w.heap.size w rfl rfl rfl HX15.out.2.2.1 ⟨HX15.out.1, HX15.out.2.1, HX15.out.2.2.2.1, trivial⟩ hlt' (fun U hU => (HX.out U hU).2) c2 ?_
        intro T X30 hT hS
        simp only [Act.put, List.setIfInBounds_toArray, List.set_cons_zero, List.set_cons_succ]
        simp only [hT]
        have HY : Hid (Below w.heap.size w X30 ∧ Box X30 gp 23 (pcL ⟨rate, burst, tf, nx⟩) ∧ w.heap.size ≤ gp ∧ Two X30 w.heap.size ta tc sa sc q Tl Sl ∧ True) := ⟨hS.1, hS.2.1, HX15.out.2.2.1, hS.2.2.1, trivial⟩
        clear hS hT c2 HX15
        have HLT : Hid (gp < X30.heap.size) := (HY.out.2.1).lt
        go_upto_region 20 with fail
        refine bd20_reg (by rfl) ⟨rate, burst, tf, nx⟩ ⟨rate, burst, tf - x.2 * 1000000, nx⟩ xb xo i n cap q tc sc ta sa Tl Sl x.2 gp X30.heap.size w.heap.size w rfl rfl rfl HY.out.2.2.1 HLT.out ⟨HY.out.1, Nat.le_refl _, HY.out.2.1, HY.out.2.2.2.1⟩ hlt' (fun U hU => (HX.out U hU).2) c3 ?_
        intro c T X31 hT10 hT12 hS
        simp only [Act.put, List.setIfInBounds_toArray, List.set_cons_zero, List.set_cons_succ]
        simp only [hT10, hT12]
        obtain ⟨gt, hgt⟩ : ∃ k, c 10 = k := ⟨_, rfl⟩
        simp only [hgt] at hS ⊢
        have HZ : Hid (Below w.heap.size w X31 ∧ Box X31 gp 23 (pcL ⟨rate, burst, tf, nx⟩) ∧ Box X31 gt 23 (pcL ⟨rate, burst, tf - x.2 * 1000000, nx⟩) ∧ w.heap.size ≤ gp ∧ gp < gt ∧ Two X31 w.heap.size ta tc sa sc q Tl Sl ∧ True) := ⟨hS.1, hS.2.2.1, by simpa using (hS.2.2.2.2.1 (by trivial)).2, HY.out.2.2.1, Nat.lt_of_lt_of_le HLT.out (hS.2.2.2.2.1 (by trivial)).1, hS.2.2.2.1, trivial⟩
        clear hS hT10 hT12 hgt c3 HY HLT
        go_wp2_with (first | (refine wpS_load rfl rfl rfl (HZ.out.2.2.1) isS23 ?_) | (refine wpS_store rfl rfl rfl rfl rfl (HZ.out.2.1) rfl isS23 (pcL_one _) ?_))
        intro X33 HN
        have HX33 : Hid (Below w.heap.size w X33 ∧ Box X33 gp 23 (pcL ⟨rate, burst, tf - x.2 * 1000000, nx⟩) ∧ Box X33 gt 23 (pcL ⟨rate, burst, tf - x.2 * 1000000, nx⟩) ∧ w.heap.size ≤ gp ∧ gp < gt ∧ Two X33 w.heap.size ta tc sa sc q Tl Sl ∧ True) := by
          obtain ⟨hb, b0, b1, l0, l1, rr, _⟩ := HZ.out
          obtain ⟨st, bn⟩ := HN.out
          exact ⟨st.below _ _ (by omega) hb, bn, b1.sto st (by omega), l0, l1, rr.sto b0 st, trivial⟩
        clear HN HZ
        have HX34 : Hid (Below w.heap.size w X33 ∧ Box X33 gp 23 (pcL ⟨rate, burst, tf - x.2 * 1000000, nx⟩) ∧ w.heap.size ≤ gp ∧ Two X33 w.heap.size ta tc sa sc q Tl Sl ∧ True) := by
          obtain ⟨hb, b0, b1, l0, l1, rr, _⟩ := HX33.out
          exact ⟨hb, b0, l0, rr, trivial⟩
        clear  HX33
        go_upto_region 24 with fail
        obtain ⟨ta1, tc1, wa, r1, RI1, hBI, hKe, hNe⟩ := app_int X33 w.heap.size ta q tc Tl (HX34.out.2.2.2.1).t (HX34.out.1).size nx (by omega)
        have A1 : Hid ((Builtin.append_ #[41, 41] 41 #[.slice ta q tc, .slice (some ⟨X33.heap.size, 0, none⟩) 1 1]).run Try.prog (X33.alloc (.cells #[.int .i64 nx] 3)) = .ok (.slice ta1 (q + 1) tc1) wa) := r1
        have HA : Hid (Below w.heap.size w wa ∧ Box wa gp 23 (pcL ⟨rate, burst, tf - x.2 * 1000000, nx⟩) ∧ w.heap.size ≤ gp ∧ RowI wa w.heap.size ta1 (q + 1) tc1 (Tl ++ [nx]) ∧ RowI wa w.heap.size sa q sc Sl ∧ ∀ k, ta1 = some ⟨k, 0, none⟩ → sa ≠ some ⟨k, 0, none⟩) := by
          obtain ⟨hb, b0, l0, rr, _⟩ := HX34.out
          refine ⟨hb.trans hBI, (hKe gp b0.lt (rr.t.row gp _ b0)).trans b0, l0, RI1, rr.s.same fun g cur hg hh => hKe g (rr.s.lt hg) (fun e => rr.ap g e hg), fun k hk hs => ?_⟩
          rcases hNe k hk with h | h
          · exact rr.ap k h hs
          · have := rr.s.lt hs; omega
        clear r1 RI1 hBI hKe hNe HX34
        go_upto_region 25 with (at_builtin; refine Lib.wpList_append_run _ rfl (.tmp 122) (.tmp 124) 41 41 rfl (.slice ta q tc) (.slice (some ⟨X33.heap.size, 0, none⟩) 1 1) rfl rfl (.slice ta1 (q + 1) tc1) wa A1.out ?_)
        obtain ⟨sa1, sc1, wb, r1, RI1, hBI, hKe, hNe⟩ := app_int wa w.heap.size sa q sc Sl HA.out.2.2.2.2.1 HA.out.1.size x.2 (by omega)
        have A2 : Hid ((Builtin.append_ #[41, 41] 41 #[.slice sa q sc, .slice (some ⟨wa.heap.size, 0, none⟩) 1 1]).run Try.prog (wa.alloc (.cells #[.int .i64 x.2] 3)) = .ok (.slice sa1 (q + 1) sc1) wb) := r1
        have HB : Hid (Below w.heap.size w wb ∧ Box wb gp 23 (pcL ⟨rate, burst, tf - x.2 * 1000000, nx⟩) ∧ w.heap.size ≤ gp ∧ Two wb w.heap.size ta1 tc1 sa1 sc1 (q + 1) (Tl ++ [nx]) (Sl ++ [x.2])) := by
          obtain ⟨hb, b0, l0, rt, rs, ap⟩ := HA.out
          refine ⟨hb.trans hBI, (hKe gp b0.lt (rs.row gp _ b0)).trans b0, l0, rt.same fun g cur hg hh => hKe g (rt.lt hg) (ap g hg), RI1, fun k hk hs => ?_⟩
          rcases hNe k hs with h | h
          · exact ap k hk h
          · have := rt.lt hk; omega
        obtain ⟨hw0, hw1⟩ := HX.out wa HA.out.1
        clear r1 RI1 hBI hKe hNe A1
        go_upto_region 26 with (at_builtin; refine Lib.wpList_append_run _ rfl (.tmp 126) (.tmp 132) 41 41 rfl (.slice sa q sc) (.slice (some ⟨wa.heap.size, 0, none⟩) 1 1) rfl rfl (.slice sa1 (q + 1) sc1) wb A2.out ?_)
        clear hw0 hw1 A2 HA HX
        go_wp2_with fail
        obtain ⟨Ts, hTs⟩ : ∃ l, Tl ++ [nx] = l := ⟨_, rfl⟩
        obtain ⟨Ss, hSs⟩ : ∃ l, Sl ++ [x.2] = l := ⟨_, rfl⟩
        rw [hTs, hSs] at HF3 HB
        rw [hSs] at HLS
        clear hTs hSs
        go_loop [17, 18, 19] (fun v17 v18 v19 => ∃ (j : Nat) (sm lg kk : Int), v17 = .int .i64 sm ∧ v18 = .int .i64 lg ∧ v19 = .int .i64 kk ∧ kk = (j : Int) - 1 ∧ j ≤ q + 1 ∧ 0 ≤ sm ∧ sm ≤ 209715200 ∧ 0 ≤ lg ∧ lg ≤ 1048576 ∧ Hid (sm = sufI Ss j ∧ (j < q + 1 → x.2 ≤ lg)))
          (fun _ _ v19 => (intOf v19 + 1).toNat)
        case atStart => exact ⟨q + 1, 0, 0, (q : Int), rfl, rfl, by go_num, by omega, Nat.le_refl _, Int.le_refl _, by omega, Int.le_refl _, by omega, (suf_end Ss (by have h1 := HF3.out.1.len; have h2 := HF3.out.2.1; omega)).symm, fun h => absurd h (by omega)⟩
        case round =>
          obtain ⟨j, sm, lg, kk, rfl, rfl, rfl, hkk, hjq, hs0, hs1, hg0, hg1, HJ⟩ := hrel
          by_cases hj0 : j = 0
          · obtain rfl : kk = -1 := by omega
            clear HJ hkk
            go_wp2_with fail
            go_roundw
            case rel => exact ⟨i + 1, q + 1, tc1, sc1, ta1, sa1, nx, tf - x.2 * 1000000, Ts, Ss, rfl, rfl, rfl, by go_num, by omega, by omega, hnx0.1, hnx0.2, HF3.out, HB.out.1, HB.out.2.1, HB.out.2.2.1, HB.out.2.2.2, trivial⟩
            case measure => simp [intOf]; omega
          · obtain ⟨k, rfl⟩ : ∃ k, j = k + 1 := ⟨j - 1, by omega⟩
            obtain rfl : kk = (k : Int) := by omega
            have hkT : k < Ts.length := by have := HF3.out.2.1; omega
            have hkS : k < Ss.length := by have h1 := HF3.out.1.len; omega
            obtain ⟨tb, tof, eT, ht0⟩ := HB.out.2.2.2.t.at k (by omega)
            obtain ⟨sb, sof, eS, hs2⟩ := HB.out.2.2.2.s.at k (by omega)
            obtain ⟨tv, htv⟩ : ∃ z, at0 Ts k = z := ⟨_, rfl⟩
            obtain ⟨sv, hsv⟩ : ∃ z, at0 Ss k = z := ⟨_, rfl⟩
            have ht1 : wb.cell? ⟨tb, tof + k, none⟩ = some (.int .i64 tv) := by rw [← htv]; exact ht0
            have hs3 : wb.cell? ⟨sb, sof + k, none⟩ = some (.int .i64 sv) := by rw [← hsv]; exact hs2
            have htm := HF3.out.1.tm k hkT
            have hsz := HF3.out.1.sz k hkT
            have hle := HF3.out.1.led k hkT
            have hsn := suf_next hkS
            have hsb := suf_bd (l := Ss) (fun k hk => HF3.out.1.sz k (by have h1 := HF3.out.1.len; omega)) (Ss.length - k) k (by omega)
            have hj1 := HJ.out
            have hqS : Ss.length = q + 1 := by have h1 := HF3.out.1.len; have h2 := HF3.out.2.1; omega
            rw [htv] at htm hle
            rw [hsv] at hsz hsn
            rw [hsn, ← hj1.1] at hle hsb
            have hlast : k = q → sv = x.2 := fun e => by rw [← hsv, e]; exact HLS.out
            obtain ⟨s2, hs4⟩ : ∃ z, sm + sv = z := ⟨_, rfl⟩
            obtain ⟨lg2, hlg⟩ : ∃ z, max lg sv = z := ⟨_, rfl⟩
            obtain ⟨m0, hm0⟩ : ∃ z, max (lg2 - burst) 0 = z := ⟨_, rfl⟩
            obtain ⟨dt, hdt⟩ : ∃ z, nx - tv = z := ⟨_, rfl⟩
            obtain ⟨pr, hpr⟩ : ∃ z, rate * dt = z := ⟨_, rfl⟩
            rw [show sv + sm = s2 by omega] at hle hsb
            rw [hdt, hpr] at hle
            have hpb : 0 ≤ pr ∧ pr ≤ 1073741824 * 1048576000 := by
              rw [← hpr]
              exact ⟨Int.mul_nonneg (by omega) (by omega), Int.mul_le_mul (by omega) (by omega) (by omega) (by omega)⟩
            have hlg3 : x.2 ≤ lg2 := by
              by_cases e : k = q
              · have := hlast e; omega
              · have := hj1.2 (by omega); omega
            have hB := HBD.out
            have w1 : IntKind.i64.wrap (sm + sv) = s2 := by rw [IntKind.wrap_i64]; omega
            have w2 := fun W => max2 hlg W
            have w3 : IntKind.i64.wrap (s2 - burst) = s2 - burst := by rw [IntKind.wrap_i64]; omega
            have w4 : IntKind.i64.wrap (lg2 - burst) = lg2 - burst := by rw [IntKind.wrap_i64]; omega
            have w5 := fun W => max2 hm0 W
            have w6 : IntKind.i64.wrap (s2 - burst - m0) = s2 - burst - m0 := by rw [IntKind.wrap_i64]; omega
            have w7 : IntKind.i64.wrap ((s2 - burst - m0) * 1000000) = (s2 - burst - m0) * 1000000 := by rw [IntKind.wrap_i64]; omega
            have w8 : IntKind.i64.wrap (nx - tv) = dt := by rw [IntKind.wrap_i64]; omega
            have w9 : IntKind.i64.wrap (rate * dt) = pr := by rw [hpr, IntKind.wrap_i64]; omega
            have wd : decide (pr < (s2 - burst - m0) * 1000000) = false := decide_eq_false (by omega)
            have hq1 : (k : Int) < ((q + 1 : Nat) : Int) := by omega
            have hq2 : k < q + 1 := by omega
            have HJ2 : Hid (s2 = sufI Ss k ∧ (k < q + 1 → x.2 ≤ lg2)) := ⟨by rw [hsn, ← hj1.1]; omega, fun _ => hlg3⟩
            have hsR : 0 ≤ s2 ∧ s2 ≤ 209715200 ∧ 0 ≤ lg2 ∧ lg2 ≤ 1048576 := by omega
            clear hB hlg3 hpb hle hsb hj1 hlast hsn hsz htm hkS hkT hqS ht0 hs2 hs4 hlg hm0 hdt hpr htv hsv HJ hkk
            subst eT
            subst eS
            go_wp2_with fail
            go_round
            case rel => exact ⟨k, s2, lg2, (k : Int) - 1, rfl, rfl, by go_num, rfl, by omega, hsR.1, hsR.2.1, hsR.2.2.1, hsR.2.2.2, HJ2.out⟩
            case measure => simp [intOf]
    · obtain rfl : i = n := by omega
      clear HF hn0 hn1
      go_wp2_with fail
      refine (hd _).mono ?_
      rintro e w41 ⟨rfl, hB⟩
      have HX41 : Hid (Below w.heap.size w w41 ∧ Box w41 gp 23 (pcL ⟨rate, burst, tk, nw⟩) ∧ w.heap.size ≤ gp ∧ Two w41 w.heap.size ta tc sa sc q Tl Sl ∧ True) := by
        obtain ⟨hb, b0, l0, rr, _⟩ := HR.out
        exact ⟨Below.on hb hB, b0.later hB, l0, rr.later hB, trivial⟩
      clear hB HR
      go_wp2_with fail
      go_ret
      exact ⟨rfl, HX41.out.1⟩
end Go.Proofs.Ytifgdpokmgibgaa
