/- The document's Add. -/
import Derived.Test.YtiigipfcagmgnaaRef3
namespace Go.Proofs.Ytiigipfcagmgnaa
open Go.ChangeShapes Go.WideShapes Go.ChangeAt Go.RowKit Go.Shelf
set_option linter.unusedVariables false

theorem below_set {w W : World} (h : Below w.heap.size w W) (j : Nat) (u : Value) : Below w.heap.size w (W.setCell ⟨w.heap.size, j, none⟩ u) := h.setCell (p := ⟨w.heap.size, j, none⟩) (Nat.le_refl _) u
theorem refStep_a {q : RefS} {x : Tm} (h : x.2 < q.s.1) : refStep q x = ⟨q.out ++ [x], q.put, q.s⟩ := by unfold refStep; rw [if_pos h]
theorem refStep_t {og : List Tm} {qs x : Tm} (h : ¬ x.2 < qs.1) (h' : qs.2 < x.1) : refStep ⟨og, true, qs⟩ x = ⟨og ++ [x], true, qs⟩ := by unfold refStep; rw [if_neg h, if_pos h', if_pos rfl]
theorem refStep_f {og : List Tm} {qs x : Tm} (h : ¬ x.2 < qs.1) (h' : qs.2 < x.1) : refStep ⟨og, false, qs⟩ x = ⟨og ++ [qs] ++ [x], true, qs⟩ := by unfold refStep; rw [if_neg h, if_pos h']; rfl
theorem refStep_s {q : RefS} {x : Tm} (h : ¬ x.2 < q.s.1) (h' : ¬ q.s.2 < x.1) : refStep q x = ⟨q.out, q.put, (min q.s.1 x.1, max q.s.2 x.2)⟩ := by unfold refStep; rw [if_neg h, if_neg h']

set_option maxRecDepth 100000 in
set_option maxHeartbeats 2000000 in
/-- A row or a span that may not be added. -/
theorem refAdd_not (A : Option Addr) (cap : Nat) (ts : List Tm) (s : Tm) (w : World) (hT : Got w A cap ts) (n : Nat) (hn : ts.length = n) (hok : ¬ (chk (-1) ts = true ∧ rightB s = true)) (e0 : Int) (he : bothI ts s = e0) :
    Calls Try.prog 14 #[.slice A n cap, tmV s] w fun e W' => e = .returned (.tuple #[.slice none 0 0, .int .i64 e0]) ∧ Below w.heap.size w W' := by
  have bS := BoxT.new w s
  have hB0 : Below w.heap.size w (w.alloc (.cells #[.int .i64 s.1, .int .i64 s.2] 24)) := (Below.refl _ w).alloc (Nat.le_refl _) _
  cases hc : chk (-1) ts with
  | false =>
    have he0 : e0 = 60 := by rw [← he]; unfold bothI; rw [if_neg (by rw [hc]; decide)]
    subst he0
    have cC := refCheck_is A cap ts _ (hT.later hB0) n hn 60 (by unfold errI; rw [if_neg (by rw [hc]; decide)])
    clear hc hT hn hok he
    go_enter Try.func14, Try.ntmps14
    go_wp2_with (go_at_call 19; refine cC.mono ?_; rintro e w1 ⟨rfl, hB1⟩)
    go_ret2
    exact ⟨rfl, below_next hB0 hB1⟩
  | true =>
    have hr : rightB s = false := by
      cases h : rightB s with
      | false => rfl
      | true => exact (hok ⟨hc, h⟩).elim
    have he0 : e0 = 2 := by rw [← he]; unfold bothI; rw [if_pos hc, if_neg (by rw [hr]; decide)]
    subst he0
    have cC := refCheck_is A cap ts _ (hT.later hB0) n hn 0 (by unfold errI; rw [if_pos hc])
    have cR : ∀ W, Calls Try.prog 33 #[tmV s] W fun e w' => e = .returned (.bool false) ∧ w' = W.alloc (.cells #[.int .i64 s.1, .int .i64 s.2] 24) := fun W => by
      have := right_any s W; rw [hr] at this; exact this
    clear hc hT hn hok he hr
    go_enter Try.func14, Try.ntmps14
    go_wp2_with (first | (go_at_call 19; refine cC.mono ?_; rintro e w1 ⟨rfl, hB1⟩; have bS1 := bS.on hB1; have k0 := bS1.cell0; have k1 := bS1.cell1) | (go_at_call 33; refine (cR _).mono ?_; rintro e w2 ⟨rfl, rfl⟩))
    go_ret2
    exact ⟨rfl, below_alloc (below_next hB0 hB1) _⟩

set_option maxRecDepth 100000 in
set_option maxHeartbeats 4000000 in
/-- Nothing is added. -/
theorem refAdd_none (A : Option Addr) (cap : Nat) (ts : List Tm) (s : Tm) (w : World) (hT : Got w A cap ts) (n : Nat) (hn : ts.length = n) (hlen : (n + 1) * 16 ≤ 140737488355328) (hc : chk (-1) ts = true) (hr : rightB s = true) (hem : s.1 = s.2) :
    Calls Try.prog 14 #[.slice A n cap, tmV s] w fun e W' => ∃ va vc, e = .returned (.tuple #[.slice va n vc, .int .i64 0]) ∧ Got W' va vc ts ∧ Below w.heap.size w W' := by
  have bS := BoxT.new w s
  have hB0 : Below w.heap.size w (w.alloc (.cells #[.int .i64 s.1, .int .i64 s.2] 24)) := (Below.refl _ w).alloc (Nat.le_refl _) _
  have cC := refCheck_is A cap ts _ (hT.later hB0) n hn 0 (by unfold errI; rw [if_pos hc])
  have cR : ∀ W, Calls Try.prog 33 #[tmV s] W fun e w' => e = .returned (.bool true) ∧ w' = W.alloc (.cells #[.int .i64 s.1, .int .i64 s.2] 24) := fun W => by
    have := right_any s W; rw [hr] at this; exact this
  have hd : (s.1 == s.2) = true := by simpa using hem
  have HAP : Hid (∀ W, Below w.heap.size w W → ∃ va vc w', (Builtin.append_ #[22, 22] 22 #[.slice (some ⟨W.heap.size, 0, none⟩) 0 0, .slice A n cap]).run Try.prog (W.alloc (.cells #[] 24)) = .ok (.slice va n vc) w' ∧ Got w' va vc ts ∧ Below w.heap.size w w') := fun W hW => by
    obtain ⟨va1, vc1, w1, r1, R1, g1⟩ := app_row (W.alloc (.cells #[] 24)) W.heap.size _ 0 0 [] (owns_empty W W.heap.size (Nat.le_refl _)) (by simp) A cap ts ((hT.later hW).1.alloc _) hT.2 (by rw [hn]; omega)
    rw [Nat.zero_add, hn] at r1
    rw [Nat.zero_add, List.nil_append] at R1
    have hbb : Below W.heap.size W w1 := below_append ((Below.refl _ W).alloc (Nat.le_refl _) _) (by simp) (owns_empty W W.heap.size (Nat.le_refl _)) g1
    exact ⟨va1, vc1, w1, r1, R1.got, below_next hW hbb⟩
  clear hc hr hem hT hn
  go_enter Try.func14, Try.ntmps14
  go_upto_region 6 with (first | (go_at_call 19; refine cC.mono ?_; rintro e w1 ⟨rfl, hB1⟩; have bS1 := bS.on hB1; have k0 := bS1.cell0; have k1 := bS1.cell1; have bS2 := bS1.alloc (.cells #[.int .i64 s.1, .int .i64 s.2] 24); have k2 := bS2.cell0; have k3 := bS2.cell1) | (go_at_call 33; refine (cR _).mono ?_; rintro e w2 ⟨rfl, rfl⟩))
  obtain ⟨va, vc, w3, hrun, hG3, hB3⟩ := HAP.out _ (below_alloc (below_next hB0 hB1) (.cells #[.int .i64 s.1, .int .i64 s.2] 24))
  obtain ⟨W2, hW2⟩ : ∃ W2, w1.alloc (.cells #[.int .i64 s.1, .int .i64 s.2] 24) = W2 := ⟨_, rfl⟩
  rw [hW2] at hrun ⊢
  have HRUN : Hid (_ = _) := hrun
  clear hrun hW2 bS1 bS2 k0 k1 k2 k3
  go_wp2_with (at_builtin; refine Lib.wpList_append_run (W2.alloc (.cells #[] 24)) rfl (.tmp 20) (.tmp 21) 22 22 rfl (.slice (some ⟨W2.heap.size, 0, none⟩) 0 0) (.slice A n cap) rfl rfl (.slice va n vc) w3 HRUN.out ?_)
  go_ret2
  exact ⟨va, vc, rfl, hG3, hB3⟩

set_option maxRecDepth 100000 in
set_option maxHeartbeats 16000000 in
/-- Something is added. -/
theorem refAdd_some (A : Option Addr) (cap : Nat) (ts : List Tm) (s : Tm) (w : World) (hT : Got w A cap ts) (n : Nat) (hn : ts.length = n) (hlen : (n + 1) * 16 ≤ 140737488355328) (hc : chk (-1) ts = true) (hr : rightB s = true) (hem : s.1 < s.2) (m : Nat) (hm : (addR ts s).length = m) :
    Calls Try.prog 14 #[.slice A n cap, tmV s] w fun e W' => ∃ va vc, e = .returned (.tuple #[.slice va m vc, .int .i64 0]) ∧ Got W' va vc (addR ts s) ∧ Below w.heap.size w W' := by
  have bS := BoxT.new w s
  have hB0 : Below w.heap.size w (w.alloc (.cells #[.int .i64 s.1, .int .i64 s.2] 24)) := (Below.refl _ w).alloc (Nat.le_refl _) _
  have cC := refCheck_is A cap ts _ (hT.later hB0) n hn 0 (by unfold errI; rw [if_pos hc])
  have cR : ∀ W, Calls Try.prog 33 #[tmV s] W fun e w' => e = .returned (.bool true) ∧ w' = W.alloc (.cells #[.int .i64 s.1, .int .i64 s.2] 24) := fun W => by
    have := right_any s W; rw [hr] at this; exact this
  have hd : (s.1 == s.2) = false := by simp; omega
  have hml : n ≤ 9223372036854775807 := by omega
  have HT : Hid (Got w A cap ts) := hT
  have HN : Hid (ts.length = n ∧ refEnd (refAll ts s) = addR ts s ∧ (addR ts s).length = m) := ⟨hn, ref_is hc hem, hm⟩
  clear hc hr hT hn hm hem
  go_enter Try.func14, Try.ntmps14
  go_wp2_with (first | (go_at_call 19; refine cC.mono ?_; rintro e w1 ⟨rfl, hB1⟩; have bS1 := bS.on hB1; have k0 := bS1.cell0; have k1 := bS1.cell1; have bS2 := bS1.alloc (.cells #[.int .i64 s.1, .int .i64 s.2] 24); have k2 := bS2.cell0; have k3 := bS2.cell1) | (go_at_call 33; refine (cR _).mono ?_; rintro e w2 ⟨rfl, rfl⟩))
  have hB2 : Below w.heap.size w (w1.alloc (.cells #[.int .i64 s.1, .int .i64 s.2] 24)) := below_alloc (below_next hB0 hB1) _
  go_loopw [6, 7, 8] (fun v vp vi wr => ∃ (i L : Nat) (b : Bool) (A2 : Option Addr) (c : Nat), vi = .int .i64 i ∧ vp = .bool b ∧ v = .slice A2 L c ∧ i ≤ n ∧ L ≤ i + 1 ∧ (b = false → L ≤ i) ∧ Hid ((refAll (ts.take i) s).put = b ∧ (refAll (ts.take i) s).out.length = L ∧ RowT wr (w.heap.size + 1) A2 L c (refAll (ts.take i) s).out ∧ Below w.heap.size w wr ∧ BoxT wr w.heap.size (refAll (ts.take i) s).s))
    (fun _ _ vi _ => n - (intOf vi).toNat)
  case atStart => exact ⟨0, 0, false, none, 0, rfl, rfl, rfl, Nat.zero_le _, Nat.zero_le _, fun _ => Nat.le_refl _, by simp [refAll], by simp [refAll], by simpa [refAll] using RowT.nil _ _, hB2, by simpa [refAll] using bS2⟩
  case round =>
    obtain ⟨i, L, b, va, vc, rfl, rfl, rfl, hin, hLi, hLb, HL⟩ := hrel
    clear bS bS1 k0 k1 k2 k3 bS2 hB0 hB1 hB2 cC
    obtain ⟨q, hq⟩ : ∃ q, refAll (ts.take i) s = q := ⟨_, rfl⟩
    rw [hq] at HL
    obtain ⟨og, b', qs⟩ := q
    obtain rfl : b' = b := HL.out.1
    have HF : Hid (og.length = L ∧ RowT wr (w.heap.size + 1) va L vc og ∧ Below w.heap.size w wr ∧ BoxT wr w.heap.size qs) := HL.out.2
    have hbl : w.heap.size < wr.heap.size := HF.out.2.2.2.lt
    clear HL
    by_cases hlt : i < n
    · have hi' : i < ts.length := by have := HN.out.1; omega
      obtain ⟨kb, ko, e3, hc0, hc1⟩ := HT.out.1.2 i hi'
      obtain ⟨x, hx⟩ : ∃ x, ts[i]?.getD (0, 0) = x := ⟨_, rfl⟩
      rw [hx] at hc0 hc1
      have HCW : Hid (∀ W, Below w.heap.size w W → W.cell? ⟨kb, ko + i * 2, none⟩ = some (.int .i64 x.1) ∧ W.cell? ⟨kb, ko + i * 2 + 1, none⟩ = some (.int .i64 x.2)) := fun W hW =>
        ⟨(hW.cell (p := ⟨kb, ko + i * 2, none⟩) (lt_of_cell hc0)).trans hc0, (hW.cell (p := ⟨kb, ko + i * 2 + 1, none⟩) (lt_of_cell hc1)).trans hc1⟩
      have HCC : Hid (∀ W, Below wr.heap.size wr W → W.cell? ⟨kb, ko + i * 2, none⟩ = some (.int .i64 x.1) ∧ W.cell? ⟨kb, ko + i * 2 + 1, none⟩ = some (.int .i64 x.2) ∧ W.cell? ⟨w.heap.size, 0, none⟩ = some (.int .i64 qs.1) ∧ W.cell? ⟨w.heap.size, 1, none⟩ = some (.int .i64 qs.2)) := fun W hW =>
        ⟨(HCW.out W (below_next HF.out.2.2.1 hW)).1, (HCW.out W (below_next HF.out.2.2.1 hW)).2, (HF.out.2.2.2.on hW).cell0, (HF.out.2.2.2.on hW).cell1⟩
      have HST : Hid (refAll (ts.take (i + 1)) s = refStep ⟨og, b', qs⟩ x) := by
        unfold Hid; rw [take_snoc hi' hx, refAll_snoc, hq]
      obtain ⟨p0, p1, p2, p3⟩ := HCC.out wr (Below.refl _ _)
      have hlt' : (i : Int) < (n : Int) := by omega
      subst e3
      clear hx hi' hc0 hc1 hq
      by_cases h1 : x.2 < qs.1
      · have HS2 : Hid (refAll (ts.take (i + 1)) s = ⟨og ++ [x], b', qs⟩) := HST.out.trans (refStep_a h1)
        go_upto_region 13 with fail
        go_region_held3 (fun W => W.cell? ⟨kb, ko + i * 2, none⟩ = some (.int .i64 x.1) ∧ W.cell? ⟨kb, ko + i * 2 + 1, none⟩ = some (.int .i64 x.2) ∧ W.cell? ⟨w.heap.size, 0, none⟩ = some (.int .i64 qs.1) ∧ W.cell? ⟨w.heap.size, 1, none⟩ = some (.int .i64 qs.2) ∧ Below wr.heap.size wr W)
          (refine ⟨?_, ?_, ?_, ?_, ?_⟩ <;> first | (refine (HCC.out _ ?_).1; (repeat (first | with_reducible exact Below.refl _ _ | with_reducible assumption | with_reducible refine Below.drew ?_ | with_reducible refine below_drewN ?_ _)); done) | (refine (HCC.out _ ?_).2.1; (repeat (first | with_reducible exact Below.refl _ _ | with_reducible assumption | with_reducible refine Below.drew ?_ | with_reducible refine below_drewN ?_ _)); done) | (refine (HCC.out _ ?_).2.2.1; (repeat (first | with_reducible exact Below.refl _ _ | with_reducible assumption | with_reducible refine Below.drew ?_ | with_reducible refine below_drewN ?_ _)); done) | (refine (HCC.out _ ?_).2.2.2; (repeat (first | with_reducible exact Below.refl _ _ | with_reducible assumption | with_reducible refine Below.drew ?_ | with_reducible refine below_drewN ?_ _)); done) | ((repeat (first | with_reducible exact Below.refl _ _ | with_reducible assumption | with_reducible refine Below.drew ?_ | with_reducible refine below_drewN ?_ _)); done))
          (fail)
        all_goals (
          have bW : Below w.heap.size w wr.drew := Below.drew HF.out.2.2.1
          have rW : RowT wr.drew (w.heap.size + 1) va L vc og := RowT.of_heap HF.out.2.1 (by rfl)
          have sW : BoxT wr.drew w.heap.size qs := HF.out.2.2.2
          obtain ⟨q0, q1, q2, q3⟩ := HCC.out wr.drew (Below.drew (Below.refl _ _))
          have hsw : w.heap.size < wr.drew.heap.size := hbl
          obtain ⟨W1, hW1⟩ : ∃ W1, wr.drew = W1 := ⟨_, rfl⟩
          rw [hW1] at bW rW sW q0 q1 q2 q3 hsw ⊢
          obtain ⟨va3, vc3, w3, hrun3, hR3, hb3, hk3⟩ := app_two W1 (w.heap.size + 1) va (L) vc og rW (by omega) x (by omega)
          have HRUN3 : Hid ((Builtin.append_ #[22, 22] 22 #[.slice va (L) vc, .slice (some ⟨W1.heap.size, 0, none⟩) 1 1]).run Try.prog (W1.alloc (.cells #[.int .i64 x.1, .int .i64 x.2] 24)) = .ok (.slice va3 (L + 1) vc3) w3) := hrun3
          have HR3 : Hid (RowT w3 (w.heap.size + 1) va3 (L + 1) vc3 (og ++ [x])) := hR3
          have HB3 : Hid (Below w.heap.size w w3) := hb3 (Nat.le_succ _) bW
          have HS3 : Hid (BoxT w3 w.heap.size qs) := (hk3 _ sW.lt (fun h => by have := rW.ge h; omega)).trans sW
          clear hW1 hrun3 hR3 hb3 hk3 bW rW sW
          go_wp2_with (at_builtin; refine Lib.wpList_append_run (W1.alloc (.cells #[.int .i64 x.1, .int .i64 x.2] 24)) rfl (.tmp 55) (.tmp 60) 22 22 rfl (.slice va (L) vc) (.slice (some ⟨W1.heap.size, 0, none⟩) 1 1) rfl rfl (.slice va3 (L + 1) vc3) w3 HRUN3.out ?_)
          go_roundw
          case rel => exact ⟨i + 1, L + 1, b', va3, vc3, by go_num, rfl, rfl, by omega, by omega, fun h => (by have := hLb h; omega), by rw [HS2.out], by rw [HS2.out]; simp [HF.out.1], by rw [HS2.out]; exact HR3.out, HB3.out, by rw [HS2.out]; exact HS3.out⟩
          case measure => simp [intOf]; omega)
      · by_cases h2 : qs.2 < x.1
        · cases b' with
          | true =>
            have HS2 : Hid (refAll (ts.take (i + 1)) s = ⟨og ++ [x], true, qs⟩) := HST.out.trans (refStep_t h1 h2)
            go_upto_region 13 with fail
            go_region_held3 (fun W => W.cell? ⟨kb, ko + i * 2, none⟩ = some (.int .i64 x.1) ∧ W.cell? ⟨kb, ko + i * 2 + 1, none⟩ = some (.int .i64 x.2) ∧ W.cell? ⟨w.heap.size, 0, none⟩ = some (.int .i64 qs.1) ∧ W.cell? ⟨w.heap.size, 1, none⟩ = some (.int .i64 qs.2) ∧ Below wr.heap.size wr W)
              (refine ⟨?_, ?_, ?_, ?_, ?_⟩ <;> first | (refine (HCC.out _ ?_).1; (repeat (first | with_reducible exact Below.refl _ _ | with_reducible assumption | with_reducible refine Below.drew ?_ | with_reducible refine below_drewN ?_ _)); done) | (refine (HCC.out _ ?_).2.1; (repeat (first | with_reducible exact Below.refl _ _ | with_reducible assumption | with_reducible refine Below.drew ?_ | with_reducible refine below_drewN ?_ _)); done) | (refine (HCC.out _ ?_).2.2.1; (repeat (first | with_reducible exact Below.refl _ _ | with_reducible assumption | with_reducible refine Below.drew ?_ | with_reducible refine below_drewN ?_ _)); done) | (refine (HCC.out _ ?_).2.2.2; (repeat (first | with_reducible exact Below.refl _ _ | with_reducible assumption | with_reducible refine Below.drew ?_ | with_reducible refine below_drewN ?_ _)); done) | ((repeat (first | with_reducible exact Below.refl _ _ | with_reducible assumption | with_reducible refine Below.drew ?_ | with_reducible refine below_drewN ?_ _)); done))
              (fail)
            all_goals (
              obtain ⟨q0, q1, q2, q3⟩ := HCC.out wr.drew (Below.drew (Below.refl _ _))
              have bW0 : Below wr.heap.size wr wr.drew := Below.drew (Below.refl _ _)
              have rW0 : RowT wr.drew (w.heap.size + 1) va L vc og := RowT.of_heap HF.out.2.1 (by rfl)
              have sW0 : BoxT wr.drew w.heap.size qs := HF.out.2.2.2
              obtain ⟨W0, hW0⟩ : ∃ W0, wr.drew = W0 := ⟨_, rfl⟩
              rw [hW0] at q0 q1 q2 q3 bW0 rW0 sW0 ⊢
              clear hW0
              go_upto_region 15 with fail
              go_region_held3 (fun W => W.cell? ⟨kb, ko + i * 2, none⟩ = some (.int .i64 x.1) ∧ W.cell? ⟨kb, ko + i * 2 + 1, none⟩ = some (.int .i64 x.2) ∧ W.cell? ⟨w.heap.size, 0, none⟩ = some (.int .i64 qs.1) ∧ W.cell? ⟨w.heap.size, 1, none⟩ = some (.int .i64 qs.2) ∧ Below wr.heap.size wr W)
                (refine ⟨?_, ?_, ?_, ?_, ?_⟩ <;> first | (refine (HCC.out _ ?_).1; (repeat (first | with_reducible exact Below.refl _ _ | with_reducible assumption | with_reducible refine Below.drew ?_ | with_reducible refine below_drewN ?_ _)); done) | (refine (HCC.out _ ?_).2.1; (repeat (first | with_reducible exact Below.refl _ _ | with_reducible assumption | with_reducible refine Below.drew ?_ | with_reducible refine below_drewN ?_ _)); done) | (refine (HCC.out _ ?_).2.2.1; (repeat (first | with_reducible exact Below.refl _ _ | with_reducible assumption | with_reducible refine Below.drew ?_ | with_reducible refine below_drewN ?_ _)); done) | (refine (HCC.out _ ?_).2.2.2; (repeat (first | with_reducible exact Below.refl _ _ | with_reducible assumption | with_reducible refine Below.drew ?_ | with_reducible refine below_drewN ?_ _)); done) | ((repeat (first | with_reducible exact Below.refl _ _ | with_reducible assumption | with_reducible refine Below.drew ?_ | with_reducible refine below_drewN ?_ _)); done))
                (fail)
              all_goals (
              have bW1 : Below wr.heap.size wr W0.drew := Below.drew bW0
              have rW : RowT W0.drew (w.heap.size + 1) va L vc og := RowT.of_heap rW0 (by rfl)
              have sW : BoxT W0.drew w.heap.size qs := sW0
              clear q0 q1 q2 q3
              obtain ⟨W1, hW1⟩ : ∃ W1, W0.drew = W1 := ⟨_, rfl⟩
              rw [hW1] at bW1 rW sW ⊢
              clear hW1 bW0 rW0 sW0
              obtain ⟨q0, q1, q2, q3⟩ := HCC.out W1 bW1
              have bW := below_next HF.out.2.2.1 bW1
              have hsw : w.heap.size < W1.heap.size := sW.lt
              obtain ⟨va3, vc3, w3, hrun3, hR3, hb3, hk3⟩ := app_two W1 (w.heap.size + 1) va (L) vc og rW (by omega) x (by omega)
              have HRUN3 : Hid ((Builtin.append_ #[22, 22] 22 #[.slice va (L) vc, .slice (some ⟨W1.heap.size, 0, none⟩) 1 1]).run Try.prog (W1.alloc (.cells #[.int .i64 x.1, .int .i64 x.2] 24)) = .ok (.slice va3 (L + 1) vc3) w3) := hrun3
              have HR3 : Hid (RowT w3 (w.heap.size + 1) va3 (L + 1) vc3 (og ++ [x])) := hR3
              have HB3 : Hid (Below w.heap.size w w3) := hb3 (Nat.le_succ _) bW
              have HS3 : Hid (BoxT w3 w.heap.size qs) := (hk3 _ sW.lt (fun h => by have := rW.ge h; omega)).trans sW
              clear hrun3 hR3 hb3 hk3 bW rW sW bW1
              go_wp2_with (at_builtin; refine Lib.wpList_append_run (W1.alloc (.cells #[.int .i64 x.1, .int .i64 x.2] 24)) rfl (.tmp 77) (.tmp 82) 22 22 rfl (.slice va (L) vc) (.slice (some ⟨W1.heap.size, 0, none⟩) 1 1) rfl rfl (.slice va3 (L + 1) vc3) w3 HRUN3.out ?_)
              go_roundw
              case rel => exact ⟨i + 1, L + 1, true, va3, vc3, by go_num, by first | rfl | trivial, rfl, by omega, by omega, fun h => (by first | exact h.elim | cases h | omega), by rw [HS2.out], by rw [HS2.out]; simp [HF.out.1], by rw [HS2.out]; exact HR3.out, HB3.out, by rw [HS2.out]; exact HS3.out⟩
              case measure => simp [intOf]; omega))
          | false =>
            have hL2 := hLb rfl
            have HS2 : Hid (refAll (ts.take (i + 1)) s = ⟨og ++ [qs] ++ [x], true, qs⟩) := HST.out.trans (refStep_f h1 h2)
            go_upto_region 13 with fail
            go_region_held3 (fun W => W.cell? ⟨kb, ko + i * 2, none⟩ = some (.int .i64 x.1) ∧ W.cell? ⟨kb, ko + i * 2 + 1, none⟩ = some (.int .i64 x.2) ∧ W.cell? ⟨w.heap.size, 0, none⟩ = some (.int .i64 qs.1) ∧ W.cell? ⟨w.heap.size, 1, none⟩ = some (.int .i64 qs.2) ∧ Below wr.heap.size wr W)
              (refine ⟨?_, ?_, ?_, ?_, ?_⟩ <;> first | (refine (HCC.out _ ?_).1; (repeat (first | with_reducible exact Below.refl _ _ | with_reducible assumption | with_reducible refine Below.drew ?_ | with_reducible refine below_drewN ?_ _)); done) | (refine (HCC.out _ ?_).2.1; (repeat (first | with_reducible exact Below.refl _ _ | with_reducible assumption | with_reducible refine Below.drew ?_ | with_reducible refine below_drewN ?_ _)); done) | (refine (HCC.out _ ?_).2.2.1; (repeat (first | with_reducible exact Below.refl _ _ | with_reducible assumption | with_reducible refine Below.drew ?_ | with_reducible refine below_drewN ?_ _)); done) | (refine (HCC.out _ ?_).2.2.2; (repeat (first | with_reducible exact Below.refl _ _ | with_reducible assumption | with_reducible refine Below.drew ?_ | with_reducible refine below_drewN ?_ _)); done) | ((repeat (first | with_reducible exact Below.refl _ _ | with_reducible assumption | with_reducible refine Below.drew ?_ | with_reducible refine below_drewN ?_ _)); done))
              (fail)
            all_goals (
              obtain ⟨q0, q1, q2, q3⟩ := HCC.out wr.drew (Below.drew (Below.refl _ _))
              have bW0 : Below wr.heap.size wr wr.drew := Below.drew (Below.refl _ _)
              have rW0 : RowT wr.drew (w.heap.size + 1) va L vc og := RowT.of_heap HF.out.2.1 (by rfl)
              have sW0 : BoxT wr.drew w.heap.size qs := HF.out.2.2.2
              obtain ⟨W0, hW0⟩ : ∃ W0, wr.drew = W0 := ⟨_, rfl⟩
              rw [hW0] at q0 q1 q2 q3 bW0 rW0 sW0 ⊢
              clear hW0
              go_upto_region 15 with fail
              go_region_held3 (fun W => W.cell? ⟨kb, ko + i * 2, none⟩ = some (.int .i64 x.1) ∧ W.cell? ⟨kb, ko + i * 2 + 1, none⟩ = some (.int .i64 x.2) ∧ W.cell? ⟨w.heap.size, 0, none⟩ = some (.int .i64 qs.1) ∧ W.cell? ⟨w.heap.size, 1, none⟩ = some (.int .i64 qs.2) ∧ Below wr.heap.size wr W)
                (refine ⟨?_, ?_, ?_, ?_, ?_⟩ <;> first | (refine (HCC.out _ ?_).1; (repeat (first | with_reducible exact Below.refl _ _ | with_reducible assumption | with_reducible refine Below.drew ?_ | with_reducible refine below_drewN ?_ _)); done) | (refine (HCC.out _ ?_).2.1; (repeat (first | with_reducible exact Below.refl _ _ | with_reducible assumption | with_reducible refine Below.drew ?_ | with_reducible refine below_drewN ?_ _)); done) | (refine (HCC.out _ ?_).2.2.1; (repeat (first | with_reducible exact Below.refl _ _ | with_reducible assumption | with_reducible refine Below.drew ?_ | with_reducible refine below_drewN ?_ _)); done) | (refine (HCC.out _ ?_).2.2.2; (repeat (first | with_reducible exact Below.refl _ _ | with_reducible assumption | with_reducible refine Below.drew ?_ | with_reducible refine below_drewN ?_ _)); done) | ((repeat (first | with_reducible exact Below.refl _ _ | with_reducible assumption | with_reducible refine Below.drew ?_ | with_reducible refine below_drewN ?_ _)); done))
                (fail)
              all_goals (
              have bW1 : Below wr.heap.size wr W0.drew := Below.drew bW0
              have rW : RowT W0.drew (w.heap.size + 1) va L vc og := RowT.of_heap rW0 (by rfl)
              have sW : BoxT W0.drew w.heap.size qs := sW0
              clear q0 q1 q2 q3
              obtain ⟨W1, hW1⟩ : ∃ W1, W0.drew = W1 := ⟨_, rfl⟩
              rw [hW1] at bW1 rW sW ⊢
              clear hW1 bW0 rW0 sW0
              obtain ⟨q0, q1, q2, q3⟩ := HCC.out W1 bW1
              have bW := below_next HF.out.2.2.1 bW1
              have hsw : w.heap.size < W1.heap.size := sW.lt
              obtain ⟨va3, vc3, w3, hrun3, hR3, hb3, hk3⟩ := app_two W1 (w.heap.size + 1) va (L) vc og rW (by omega) qs (by omega)
              have HRUN3 : Hid ((Builtin.append_ #[22, 22] 22 #[.slice va (L) vc, .slice (some ⟨W1.heap.size, 0, none⟩) 1 1]).run Try.prog (W1.alloc (.cells #[.int .i64 qs.1, .int .i64 qs.2] 24)) = .ok (.slice va3 (L + 1) vc3) w3) := hrun3
              have HR3 : Hid (RowT w3 (w.heap.size + 1) va3 (L + 1) vc3 (og ++ [qs])) := hR3
              have HB3 : Hid (Below w.heap.size w w3) := hb3 (Nat.le_succ _) bW
              have hs3 : BoxT w3 w.heap.size qs := (hk3 _ sW.lt (fun h => by have := rW.ge h; omega)).trans sW
              have hsw3 : w.heap.size < w3.heap.size := hs3.lt
              have r0 := (HCW.out w3 HB3.out).1
              have r1 := (HCW.out w3 HB3.out).2
              obtain ⟨va4, vc4, w4, hrun4, hR4, hb4, hk4⟩ := app_two w3 (w.heap.size + 1) va3 (L + 1) vc3 (og ++ [qs]) HR3.out (by omega) x (by omega)
              have HRUN4 : Hid ((Builtin.append_ #[22, 22] 22 #[.slice va3 (L + 1) vc3, .slice (some ⟨w3.heap.size, 0, none⟩) 1 1]).run Try.prog (w3.alloc (.cells #[.int .i64 x.1, .int .i64 x.2] 24)) = .ok (.slice va4 (L + 1 + 1) vc4) w4) := hrun4
              have HR4 : Hid (RowT w4 (w.heap.size + 1) va4 (L + 1 + 1) vc4 ((og ++ [qs]) ++ [x])) := hR4
              have HB4 : Hid (Below w.heap.size w w4) := hb4 (Nat.le_succ _) HB3.out
              have HS4 : Hid (BoxT w4 w.heap.size qs) := (hk4 _ hs3.lt (fun h => by have := HR3.out.ge h; omega)).trans hs3
              clear hrun3 hR3 hb3 hk3 hrun4 hR4 hb4 hk4 bW rW sW bW1 hs3
              go_wp2_with (first | (at_builtin; refine Lib.wpList_append_run (W1.alloc (.cells #[.int .i64 qs.1, .int .i64 qs.2] 24)) rfl (.tmp 73) (.tmp 75) 22 22 rfl (.slice va (L) vc) (.slice (some ⟨W1.heap.size, 0, none⟩) 1 1) rfl rfl (.slice va3 (L + 1) vc3) w3 HRUN3.out ?_) | (at_builtin; refine Lib.wpList_append_run (w3.alloc (.cells #[.int .i64 x.1, .int .i64 x.2] 24)) rfl (.tmp 77) (.tmp 82) 22 22 rfl (.slice va3 (L + 1) vc3) (.slice (some ⟨w3.heap.size, 0, none⟩) 1 1) rfl rfl (.slice va4 (L + 1 + 1) vc4) w4 HRUN4.out ?_))
              go_roundw
              case rel => exact ⟨i + 1, L + 1 + 1, true, va4, vc4, by go_num, by first | rfl | trivial, rfl, by omega, by omega, fun h => (by first | exact h.elim | cases h | omega), by rw [HS2.out], by rw [HS2.out]; simp [HF.out.1], by rw [HS2.out]; exact HR4.out, HB4.out, by rw [HS2.out]; exact HS4.out⟩
              case measure => simp [intOf]; omega))
        · obtain ⟨mn, hmn⟩ : ∃ mn, (if x.1 < qs.1 then x.1 else qs.1) = mn := ⟨_, rfl⟩
          obtain ⟨mx, hmx⟩ : ∃ mx, (if qs.2 < x.2 then x.2 else qs.2) = mx := ⟨_, rfl⟩
          have emn : min qs.1 x.1 = mn := by rw [← hmn]; split <;> omega
          have emx : max qs.2 x.2 = mx := by rw [← hmx]; split <;> omega
          have HS2 : Hid (refAll (ts.take (i + 1)) s = ⟨og, b', (mn, mx)⟩) := by
            unfold Hid; rw [HST.out, refStep_s h1 h2, emn, emx]
          clear emn emx
          go_upto_region 13 with fail
          go_region_held3 (fun W => W.cell? ⟨kb, ko + i * 2, none⟩ = some (.int .i64 x.1) ∧ W.cell? ⟨kb, ko + i * 2 + 1, none⟩ = some (.int .i64 x.2) ∧ W.cell? ⟨w.heap.size, 0, none⟩ = some (.int .i64 qs.1) ∧ W.cell? ⟨w.heap.size, 1, none⟩ = some (.int .i64 qs.2) ∧ Below wr.heap.size wr W)
            (refine ⟨?_, ?_, ?_, ?_, ?_⟩ <;> first | (refine (HCC.out _ ?_).1; (repeat (first | with_reducible exact Below.refl _ _ | with_reducible assumption | with_reducible refine Below.drew ?_ | with_reducible refine below_drewN ?_ _)); done) | (refine (HCC.out _ ?_).2.1; (repeat (first | with_reducible exact Below.refl _ _ | with_reducible assumption | with_reducible refine Below.drew ?_ | with_reducible refine below_drewN ?_ _)); done) | (refine (HCC.out _ ?_).2.2.1; (repeat (first | with_reducible exact Below.refl _ _ | with_reducible assumption | with_reducible refine Below.drew ?_ | with_reducible refine below_drewN ?_ _)); done) | (refine (HCC.out _ ?_).2.2.2; (repeat (first | with_reducible exact Below.refl _ _ | with_reducible assumption | with_reducible refine Below.drew ?_ | with_reducible refine below_drewN ?_ _)); done) | ((repeat (first | with_reducible exact Below.refl _ _ | with_reducible assumption | with_reducible refine Below.drew ?_ | with_reducible refine below_drewN ?_ _)); done))
            (fail)
          all_goals (
            obtain ⟨q0, q1, q2, q3⟩ := HCC.out wr.drew (Below.drew (Below.refl _ _))
            have bW0 : Below wr.heap.size wr wr.drew := Below.drew (Below.refl _ _)
            have rW0 : RowT wr.drew (w.heap.size + 1) va L vc og := RowT.of_heap HF.out.2.1 (by rfl)
            have sW0 : BoxT wr.drew w.heap.size qs := HF.out.2.2.2
            obtain ⟨W0, hW0⟩ : ∃ W0, wr.drew = W0 := ⟨_, rfl⟩
            rw [hW0] at q0 q1 q2 q3 bW0 rW0 sW0 ⊢
            clear hW0
            go_upto_region 15 with fail
            go_region_held3 (fun W => W.cell? ⟨kb, ko + i * 2, none⟩ = some (.int .i64 x.1) ∧ W.cell? ⟨kb, ko + i * 2 + 1, none⟩ = some (.int .i64 x.2) ∧ W.cell? ⟨w.heap.size, 0, none⟩ = some (.int .i64 qs.1) ∧ W.cell? ⟨w.heap.size, 1, none⟩ = some (.int .i64 qs.2) ∧ Below wr.heap.size wr W)
              (refine ⟨?_, ?_, ?_, ?_, ?_⟩ <;> first | (refine (HCC.out _ ?_).1; (repeat (first | with_reducible exact Below.refl _ _ | with_reducible assumption | with_reducible refine Below.drew ?_ | with_reducible refine below_drewN ?_ _)); done) | (refine (HCC.out _ ?_).2.1; (repeat (first | with_reducible exact Below.refl _ _ | with_reducible assumption | with_reducible refine Below.drew ?_ | with_reducible refine below_drewN ?_ _)); done) | (refine (HCC.out _ ?_).2.2.1; (repeat (first | with_reducible exact Below.refl _ _ | with_reducible assumption | with_reducible refine Below.drew ?_ | with_reducible refine below_drewN ?_ _)); done) | (refine (HCC.out _ ?_).2.2.2; (repeat (first | with_reducible exact Below.refl _ _ | with_reducible assumption | with_reducible refine Below.drew ?_ | with_reducible refine below_drewN ?_ _)); done) | ((repeat (first | with_reducible exact Below.refl _ _ | with_reducible assumption | with_reducible refine Below.drew ?_ | with_reducible refine below_drewN ?_ _)); done))
              (fail)
            all_goals (
            have bW1 : Below wr.heap.size wr W0.drew := Below.drew bW0
            have rW : RowT W0.drew (w.heap.size + 1) va L vc og := RowT.of_heap rW0 (by rfl)
            have sW : BoxT W0.drew w.heap.size qs := sW0
            clear q0 q1 q2 q3
            obtain ⟨W1, hW1⟩ : ∃ W1, W0.drew = W1 := ⟨_, rfl⟩
            rw [hW1] at bW1 rW sW ⊢
            clear hW1 bW0 rW0 sW0
            obtain ⟨q0, q1, q2, q3⟩ := HCC.out W1 bW1
            have bW := below_next HF.out.2.2.1 bW1
            have s0 : W1.drew.cell? ⟨w.heap.size, 0, none⟩ = some (.int .i64 qs.1) := sW.cell0
            have s1 : W1.drew.cell? ⟨w.heap.size, 1, none⟩ = some (.int .i64 qs.2) := sW.cell1
            have f0 := sW.frozen 0
            have f1 := sW.frozen 1
            have f2 : W1.drew.frozen? ⟨w.heap.size, 0, none⟩ = false := sW.frozen 0
            have f3 : W1.drew.frozen? ⟨w.heap.size, 1, none⟩ = false := sW.frozen 1
            have HSW : Hid (BoxT W1.drew w.heap.size qs ∧ RowT W1.drew (w.heap.size + 1) va L vc og ∧ Below w.heap.size w W1.drew) := ⟨sW, RowT.of_heap rW (by rfl), Below.drew bW⟩
            go_upto_region 12 with fail
            go_region
            all_goals (
              clear bW1 rW sW bW s0 s1 f0 f1 f2 f3
              go_wp2_with fail
              go_roundw
              case rel => exact ⟨i + 1, L, b', va, vc, by go_num, rfl, rfl, by omega, by omega, fun h => (by have := hLb h; omega), by rw [HS2.out], by rw [HS2.out]; exact HF.out.1, by rw [HS2.out]; exact (HSW.out.2.1.turned (grownBy_setAt _ _ _ _) (fun k hk => by have := HSW.out.2.1.ge hk; omega)).turned (grownBy_setAt _ _ _ _) (fun k hk => by have := HSW.out.2.1.ge hk; omega), below_set (below_set HSW.out.2.2 _ _) _ _, by rw [HS2.out]; exact HSW.out.1.set (mn, mx)⟩
              case measure => simp [intOf]; omega)))
    · obtain rfl : i = n := by omega
      have hall : ts.take i = ts := by rw [← HN.out.1]; exact List.take_length
      rw [hall] at hq
      cases b' with
      | true =>
        have HEND : Hid (og = addR ts s ∧ L = m) := by
          have h1 : og = addR ts s := by rw [← HN.out.2.1, hq]; rfl
          exact ⟨h1, by rw [← HF.out.1, h1]; exact HN.out.2.2⟩
        clear hall hq
        go_wp2_with fail
        go_ret2
        exact ⟨va, vc, by rw [← HEND.out.2]; rfl, by rw [← HEND.out.1]; exact HF.out.2.1.got, HF.out.2.2.1⟩
      | false =>
        have HEND : Hid (og ++ [qs] = addR ts s ∧ L + 1 = m) := by
          have h1 : og ++ [qs] = addR ts s := by rw [← HN.out.2.1, hq]; rfl
          exact ⟨h1, by rw [← HN.out.2.2, ← h1]; simp [HF.out.1]⟩
        have hL2 := hLb rfl
        have k0 := HF.out.2.2.2.cell0
        have k1 := HF.out.2.2.2.cell1
        obtain ⟨va3, vc3, w3, hrun3, hR3, hb3, hk3⟩ := app_two wr (w.heap.size + 1) va (L) vc og HF.out.2.1 (by omega) qs (by omega)
        have HRUN3 : Hid ((Builtin.append_ #[22, 22] 22 #[.slice va (L) vc, .slice (some ⟨wr.heap.size, 0, none⟩) 1 1]).run Try.prog (wr.alloc (.cells #[.int .i64 qs.1, .int .i64 qs.2] 24)) = .ok (.slice va3 (L + 1) vc3) w3) := hrun3
        have HR3 : Hid (RowT w3 (w.heap.size + 1) va3 (L + 1) vc3 (og ++ [qs])) := hR3
        have HB3 : Hid (Below w.heap.size w w3) := hb3 (Nat.le_succ _) HF.out.2.2.1
        clear hall hq hrun3 hR3 hb3 hk3
        go_wp2_with (at_builtin; refine Lib.wpList_append_run (wr.alloc (.cells #[.int .i64 qs.1, .int .i64 qs.2] 24)) rfl (.tmp 86) (.tmp 88) 22 22 rfl (.slice va (L) vc) (.slice (some ⟨wr.heap.size, 0, none⟩) 1 1) rfl rfl (.slice va3 (L + 1) vc3) w3 HRUN3.out ?_)
        go_ret2
        exact ⟨va3, vc3, by rw [← HEND.out.2]; rfl, by rw [← HEND.out.1]; exact HR3.out.got, HB3.out⟩

theorem refAdd_is (A : Option Addr) (cap : Nat) (ts : List Tm) (s : Tm) (w : World) (hT : Got w A cap ts) (n : Nat) (hn : ts.length = n) (hlen : (n + 1) * 16 ≤ 140737488355328) (S : List Tm) (hS : addV ts s = S) (m : Nat) (hm : S.length = m) (e0 : Int) (he : bothI ts s = e0) :
    Calls Try.prog 14 #[.slice A n cap, tmV s] w fun e W' => ∃ va vc, e = .returned (.tuple #[.slice va m vc, .int .i64 e0]) ∧ Got W' va vc S ∧ Below w.heap.size w W' := by
  by_cases hok : chk (-1) ts = true ∧ rightB s = true
  · obtain ⟨hc, hr⟩ := hok
    have hs := rightB_iff.1 hr
    have he0 : e0 = 0 := by rw [← he]; exact bothI_ok hc hr
    subst he0
    rw [addV_is hc hr] at hS
    by_cases hem : s.1 = s.2
    · rw [if_pos hem] at hS
      subst hS
      rw [hn] at hm
      subst hm
      exact refAdd_none A cap ts s w hT n hn hlen hc hr hem
    · rw [if_neg hem] at hS
      subst hS
      exact refAdd_some A cap ts s w hT n hn hlen hc hr (by omega) m hm
  · have hS0 : S = [] := by
      rw [← hS]; unfold addV
      by_cases hc : chk (-1) ts = true
      · have hk : ¬ rightB s = true := fun h => hok ⟨hc, h⟩
        rw [if_pos hc, if_neg hk]
      · rw [if_neg hc]
    subst hS0
    have hm0 : m = 0 := hm.symm
    subst hm0
    exact (refAdd_not A cap ts s w hT n hn hok e0 he).mono (fun e W' ⟨h1, h2⟩ => ⟨none, 0, h1, ⟨TimsAt.nil _ _, fun _ => rfl⟩, h2⟩)
end Go.Proofs.Ytiigipfcagmgnaa
