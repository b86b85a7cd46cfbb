/- The walk of WindowEdge. -/
import Derived.Test.YtliiogafemlagaaHeads
import Derived.Test.YtliiogafemlagaaEdgeR
import Derived.Test.YtliiogafemlagaaCame
namespace Go.Proofs.Ytliiogafemlagaa
open Go.ChangeShapes Go.WideShapes Go.ChangeAt Go.RowKit Go.Shelf
set_option linter.unusedVariables false
set_option linter.unusedSimpArgs false
attribute [local go_sem] Oper.semAt_some


theorem edge_eq {p Q : Wn} {x y z mi : Int} (ho : Ok p) (hm : p.ed ≤ mi) (hQ : tldQ p x y z = Q) (he : tldE p x y z = 0) : Ok Q ∧ ((0 ≤ y ∧ y ≤ 1125899906842624) ∧ (0 ≤ z ∧ z ≤ 1073741824)) ∧ p.ed ≤ Q.ed ∧ Q.ed ≤ max mi (y + z) ∧ p.un ≤ Q.un := by
  have hk := ok_in ho
  have ha : argB x y z = true := by
    cases k : argB x y z with
    | true => rfl
    | false => unfold tldE at he; rw [hk, k] at he; simp at he
  obtain ⟨a1, a2, a3⟩ := arg_out ha
  have hq : Q = tellQ p ⟨x, y, z⟩ := by rw [← hQ]; unfold tldQ; rw [if_pos hk, if_pos ha]
  have hok := tell_ok ho (q := ⟨x, y, z⟩) a1 a2 a3
  rw [← hq] at hok
  refine ⟨hok, ⟨a2, a3⟩, ?_⟩
  rw [hq]
  unfold tellQ takeQ
  split
  · simp only; omega
  · simp only; omega
theorem edge_err {p : Wn} {x y z : Int} (ho : Ok p) (he : tldE p x y z ≠ 0) : tldE p x y z = 2 := by
  unfold tldE at he ⊢
  rw [if_pos (ok_in ho)] at he ⊢
  cases k : argB x y z with
  | true => rw [k] at he; simp at he
  | false => simp

set_option maxRecDepth 100000 in
set_option maxHeartbeats 4000000 in
theorem edge_main (s0 : Int) (A B : Option Addr) (cap nx capx : Nat) (ts : List Tm) (xs : List Int) (hlen : ts.length ≤ 300) (hle : ts.length ≤ nx) (hs : szB s0 = true) (hx : xs.length = nx) (hd : ∀ W, Calls Try.prog 9 #[] W fun e w' => e = .returned (.bool true) ∧ Below W.heap.size W w') (w : World) (hT : TimsAt w A ts) (hX : IntsAt w B xs) : Calls Try.prog 5 #[.int .i64 s0, .slice A ts.length cap, .slice B nx capx] w fun e w' => e = .returned (.bool true) ∧ Below w.heap.size w w' := by
  obtain ⟨n, hn⟩ : ∃ n, ts.length = n := ⟨_, rfl⟩
  have HN : Hid (ts.length = n ∧ xs.length = nx) := ⟨hn, hx⟩
  have HT : Hid (TimsAt w A ts ∧ IntsAt w B xs) := ⟨hT, hX⟩
  rw [hn] at hlen hle ⊢
  clear hn hT hX hx
  have hsz := sz_out hs
  have d4 : decide ((300 : Int) < (n : Int)) = false := decide_eq_false (by omega)
  have d5 : decide ((nx : Int) < (n : Int)) = false := decide_eq_false (by omega)
  have d6 : decide (nx < n) = false := decide_eq_false (by omega)
  have HLE : Hid (n ≤ nx) := hle
  clear hle
  have HOK : Hid (Ok ⟨0, s0, s0, 0, 0, s0, 0⟩) := by unfold Hid Ok; simp only; omega
  have c0 : ∀ W, Calls Try.prog 15 #[.int .i64 s0] W fun e w' => e = .returned (.tuple #[agv (wnL ⟨0, s0, s0, 0, 0, s0, 0⟩), .int .i64 0]) ∧ Below W.heap.size W w' := fun W => new_is s0 (by unfold newQ; rw [if_pos hs]) (by unfold newE; rw [if_pos hs]) W
  clear hs
  go_enter Try.func5, Try.ntmps5
  go_wp2_with fail
  refine (c0 _).mono ?_
  rintro e w1 ⟨rfl, hB⟩
  have HX1 : Hid (Below w.heap.size w w1 ∧ True) := by
    have hb := Below.refl w.heap.size w
    exact ⟨Below.on hb hB, trivial⟩
  clear hB 
  go_wp2_with (first | (refine wpS_alloc rfl rfl zero23 ?_))
  intro X2 gp HN
  have HX2 : Hid (Below w.heap.size w X2 ∧ Box X2 gp 23 (wnL wnZ) ∧ w.heap.size ≤ gp ∧ True) := by
    obtain ⟨hb, _⟩ := HX1.out
    obtain ⟨hg, hb2, bn⟩ := HN.out
    have hz := hb.size
    exact ⟨Below.on hb hb2, bn, by omega, trivial⟩
  clear HN HX1
  go_wp2_with (first | (refine wpS_store rfl rfl rfl rfl rfl (HX2.out.2.1) rfl isS23 (wnL_one _) ?_))
  intro X3 HN
  have HX3 : Hid (Below w.heap.size w X3 ∧ Box X3 gp 23 (wnL ⟨0, s0, s0, 0, 0, s0, 0⟩) ∧ w.heap.size ≤ gp ∧ True) := by
    obtain ⟨hb, b0, l0, _⟩ := HX2.out
    obtain ⟨st, bn⟩ := HN.out
    exact ⟨st.below _ _ (by omega) hb, bn, l0, trivial⟩
  clear HN HX2
  clear c0
  go_wp2_with fail
  clear d4 d5 d6
  go_loopw [9, 10] (fun v9 v10 wr => ∃ (i : Nat) (mi : Int) (p : Wn), v9 = .int .i64 mi ∧ v10 = .int .i64 i ∧ i ≤ n ∧ (0 ≤ mi ∧ mi ≤ 1125900980584448) ∧ Hid (Ok p ∧ p.ed ≤ mi) ∧ Hid (Below w.heap.size w wr ∧ Box wr gp 23 (wnL p) ∧ w.heap.size ≤ gp ∧ True))
    (fun _ v10 _ => n - (intOf v10).toNat)
  case atStart => exact ⟨0, s0, ⟨0, s0, s0, 0, 0, s0, 0⟩, rfl, rfl, Nat.zero_le _, by omega, ⟨HOK.out, Int.le_refl _⟩, HX3.out⟩
  case round =>
    obtain ⟨i, mi, p, rfl, rfl, hin, hmi, HF, HR⟩ := hrel
    clear HX3 HOK
    by_cases hlt : i < n
    · have hi' : i < ts.length := by have := HN.out; omega
      have hj' : i < xs.length := by have h1 := HN.out; have h2 := HLE.out; omega
      obtain ⟨xb, xo, rfl, hc0, hc1⟩ := HT.out.1.2 i hi'
      obtain ⟨yb, yo, rfl, hc2, _⟩ := HT.out.2 i hj'
      obtain ⟨x, hx⟩ : ∃ x, ts[i]?.getD (0, 0) = x := ⟨_, rfl⟩
      obtain ⟨sv, hsv⟩ : ∃ x, xs[i]?.getD 0 = x := ⟨_, rfl⟩
      rw [hx] at hc0 hc1
      rw [hsv] at hc2
      have HX : Hid (∀ U, Below w.heap.size w U → U.cell? ⟨xb, xo + i * 2, none⟩ = some (.int .i64 x.1) ∧ U.cell? ⟨xb, xo + i * 2 + 1, none⟩ = some (.int .i64 x.2) ∧ U.cell? ⟨yb, yo + i, none⟩ = some (.int .i64 sv)) := fun U hU =>
        ⟨(hU.cell (p := ⟨xb, xo + i * 2, none⟩) (lt_of_cell hc0)).trans hc0, (hU.cell (p := ⟨xb, xo + i * 2 + 1, none⟩) (lt_of_cell hc1)).trans hc1, (hU.cell (p := ⟨yb, yo + i, none⟩) (lt_of_cell hc2)).trans hc2⟩
      have hlt' : (i : Int) < (n : Int) := by omega
      have hltx : (i : Int) < (nx : Int) := by have := HLE.out; omega
      clear hx hsv hi' hj' hc0 hc1 hc2
      have c1 := fun W => told_is p x.1 x.2 sv rfl rfl W
      obtain ⟨q, hQ⟩ : ∃ q, tldQ p x.1 x.2 sv = q := ⟨_, rfl⟩
      obtain ⟨r, hr⟩ : ∃ r, tldE p x.1 x.2 sv = r := ⟨_, rfl⟩
      have HQ : Hid (tldQ p x.1 x.2 sv = q ∧ tldE p x.1 x.2 sv = r) := ⟨hQ, hr⟩
      rw [hQ, hr] at c1
      clear hQ hr
      have HLT : Hid (gp < wr.heap.size) := (HR.out.2.1).lt
      go_upto_region 8 with fail
      refine ed8_reg (by rfl) p q xb xo i n cap yb yo nx capx x.1 x.2 sv r gp wr.heap.size w.heap.size w rfl rfl rfl rfl HR.out.2.2.1 HLT.out ⟨HR.out.1, Nat.le_refl _, HR.out.2.1⟩ hlt' hltx (fun U hU => HX.out U hU) c1 ?_
      intro c T X21 hT19 hT21 hS
      simp only [Act.put, List.setIfInBounds_toArray, List.set_cons_zero, List.set_cons_succ]
      simp only [hT19, hT21]
      obtain ⟨gt, hgt⟩ : ∃ k, c 19 = k := ⟨_, rfl⟩
      simp only [hgt] at hS ⊢
      have HZ : Hid (Below w.heap.size w X21 ∧ Box X21 gp 23 (wnL p) ∧ Box X21 gt 23 (wnL q) ∧ w.heap.size ≤ gp ∧ gp < gt ∧ True) := ⟨hS.1, hS.2.2.1, by simpa using (hS.2.2.2.1 (by trivial)).2, HR.out.2.2.1, Nat.lt_of_lt_of_le HLT.out (hS.2.2.2.1 (by trivial)).1, trivial⟩
      clear hS hT19 hT21 hgt c1 HLT HR
      by_cases hr0 : r = 0
      · obtain ⟨f1, f2, f3, f4, f5⟩ := edge_eq HF.out.1 HF.out.2 HQ.out.1 (HQ.out.2.trans hr0)
        have f6 := f1
        unfold Ok at f6
        obtain ⟨m2, hm2⟩ : ∃ m, max mi (x.2 + sv) = m := ⟨_, rfl⟩
        rw [hm2] at f4
        have hmb : 0 ≤ m2 ∧ m2 ≤ 1125900980584448 := by omega
        have hws : IntKind.i64.wrap (x.2 + sv) = x.2 + sv := by rw [IntKind.wrap_i64]; omega
        have c2 := fun W => chk_is q (e := 0) (by unfold chkE; rw [if_pos (ok_in f1)]) W
        have c3 := fun W => rgt_is q (m := q.l2 + q.sz) (by unfold rgtI; rw [if_pos (ok_in f1)]) W
        have d1 : decide (q.ed < p.ed) = false := decide_eq_false (by omega)
        have d2 : decide (q.ed < q.l2 + q.sz) = false := decide_eq_false (by omega)
        have d3 : decide (m2 < q.ed) = false := decide_eq_false (by omega)
        have d4 : decide (q.un < p.un) = false := decide_eq_false (by omega)
        have HF2 : Hid (Ok q ∧ q.ed ≤ m2) := ⟨f1, f4⟩
        subst hr0
        clear f1 f2 f3 f4 f5 f6 HQ HF hmi
        obtain ⟨_, hw1, hw2⟩ := HX.out X21 HZ.out.1
        have hm1 := fun W => max2 hm2 W
        clear hm2
        go_upto_region 11 with fail
        go_quiet (fail)
        obtain ⟨X31, hX⟩ : ∃ V, X21.drewN nq = V := ⟨_, rfl⟩
        try rw [hX]
        have HX31 : Hid (Below w.heap.size w X31 ∧ Box X31 gp 23 (wnL p) ∧ Box X31 gt 23 (wnL q) ∧ w.heap.size ≤ gp ∧ gp < gt ∧ True) := by
          obtain ⟨hb, b0, b1, l0, l1, _⟩ := HZ.out
          have hB := below_drewN (Below.refl X21.heap.size X21) nq
          rw [hX] at hB
          exact ⟨Below.on hb hB, b0.later hB, b1.later hB, l0, l1, trivial⟩
        clear hX hw1 hw2 hws hm1 HZ
        go_upto_region 12 with fail
        refine ed12_reg (by rfl) p q _ m2 gp gt _ _ rfl rfl rfl HX31.out.2.2.2.1 HX31.out.2.2.2.2.1 ⟨HX31.out.1, HX31.out.2.1, HX31.out.2.2.1, trivial⟩ d1 d2 d3 d4 c2 c3 ?_
        intro T X32 hT hS
        simp only [Act.put, List.setIfInBounds_toArray, List.set_cons_zero, List.set_cons_succ]
        simp only [hT]
        have HX32 : Hid (Below w.heap.size w X32 ∧ Box X32 gp 23 (wnL p) ∧ Box X32 gt 23 (wnL q) ∧ w.heap.size ≤ gp ∧ gp < gt ∧ True) := by
          obtain ⟨hb, b0, b1, l0, l1, _⟩ := HX31.out
          exact ⟨hS.1, hS.2.1, hS.2.2.1, l0, l1, trivial⟩
        clear hS hT d1 d2 d3 d4 c2 c3 HX31
        go_wp2_with (first | (refine wpS_load rfl rfl rfl (HX32.out.2.2.1) isS23 ?_) | (refine wpS_store rfl rfl rfl rfl rfl (HX32.out.2.1) rfl isS23 (wnL_one _) ?_))
        intro X33 HN
        have HX33 : Hid (Below w.heap.size w X33 ∧ Box X33 gp 23 (wnL q) ∧ Box X33 gt 23 (wnL q) ∧ w.heap.size ≤ gp ∧ gp < gt ∧ True) := by
          obtain ⟨hb, b0, b1, l0, l1, _⟩ := HX32.out
          obtain ⟨st, bn⟩ := HN.out
          exact ⟨st.below _ _ (by omega) hb, bn, b1.sto st (by omega), l0, l1, trivial⟩
        clear HN HX32
        have HX34 : Hid (Below w.heap.size w X33 ∧ Box X33 gp 23 (wnL q) ∧ w.heap.size ≤ gp ∧ True) := by
          obtain ⟨hb, b0, b1, l0, l1, _⟩ := HX33.out
          exact ⟨hb, b0, l0, trivial⟩
        clear  HX33
        go_wp2_with fail
        go_roundw
        case rel => exact ⟨i + 1, m2, q, rfl, by go_num, by omega, hmb, HF2, HX34.out⟩
        case measure => simp [intOf]; omega
      · have hr2 : r = 2 := by
          have := edge_err HF.out.1 (by rw [HQ.out.2]; exact hr0)
          rwa [HQ.out.2] at this
        subst hr2
        clear hr0 HQ HF
        go_wp2_with fail
        refine (hd _).mono ?_
        rintro e w41 ⟨rfl, hB⟩
        have HX41 : Hid (Below w.heap.size w w41 ∧ Box w41 gp 23 (wnL p) ∧ Box w41 gt 23 (wnL q) ∧ w.heap.size ≤ gp ∧ gp < gt ∧ True) := by
          obtain ⟨hb, b0, b1, l0, l1, _⟩ := HZ.out
          exact ⟨Below.on hb hB, b0.later hB, b1.later hB, l0, l1, trivial⟩
        clear hB HZ
        go_wp2_with fail
        go_ret
        exact ⟨rfl, HX41.out.1⟩
    · obtain rfl : i = n := by omega
      clear HF hmi
      go_wp2_with fail
      refine (hd _).mono ?_
      rintro e w41 ⟨rfl, hB⟩
      have HX41 : Hid (Below w.heap.size w w41 ∧ Box w41 gp 23 (wnL p) ∧ w.heap.size ≤ gp ∧ True) := by
        obtain ⟨hb, b0, l0, _⟩ := HR.out
        exact ⟨Below.on hb hB, b0.later hB, l0, trivial⟩
      clear hB HR
      go_wp2_with fail
      go_ret
      exact ⟨rfl, HX41.out.1⟩
end Go.Proofs.Ytliiogafemlagaa
