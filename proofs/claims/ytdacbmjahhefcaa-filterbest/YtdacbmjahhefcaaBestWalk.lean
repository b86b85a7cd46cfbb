/- The walk of FilterBest. -/
import Derived.Test.YtdacbmjahhefcaaNums
namespace Go.Proofs.Ytdacbmjahhefcaa
open Go.ChangeShapes Go.WideShapes Go.ChangeAt Go.RowKit Go.Shelf
set_option linter.unusedVariables false
set_option linter.unusedSimpArgs false

set_option maxRecDepth 100000 in
set_option maxHeartbeats 4000000 in
theorem best_law (A : Option Addr) (cap : Nat) (ts : List Tm) (win : Int) (m : Bool) (w : World) (hT : TimsAt w A ts) (hA : A = none → cap = 0) (hcp : ts.length ≤ cap) (hr : ts.length * 16 ≤ 140737488351232) :
    Calls Try.prog 5 #[.slice A ts.length cap, .int .i64 win, .bool m] w fun e w' => e = .returned (.bool true) ∧ Below w.heap.size w w' := by
  obtain ⟨n, hn⟩ : ∃ n, ts.length = n := ⟨_, rfl⟩
  have HN : Hid (ts.length = n) := hn
  have HT : Hid (TimsAt w A ts) := hT
  have hml : ts.length ≤ 9223372036854775807 := hT.1
  rw [hn] at hml ⊢
  clear hn hcp hr hT hA
  by_cases hbig : 300 < n
  · have hb2 : (300 : Int) < (n : Int) := by omega
    go_enter Try.func5, Try.ntmps5
    go_wp2_with fail
    refine (heads_any _).mono ?_
    rintro e w9 ⟨rfl, hB9⟩
    have HB9 : Hid (Below w.heap.size w w9) := hB9
    clear hB9
    go_wp2_with fail
    go_ret
    exact ⟨rfl, HB9.out⟩
  have hb2 : ¬ (300 : Int) < (n : Int) := by omega
  by_cases hneg : win < 0
  · go_enter Try.func5, Try.ntmps5
    go_wp2_with fail
    refine (heads_any _).mono ?_
    rintro e w9 ⟨rfl, hB9⟩
    have HB9 : Hid (Below w.heap.size w w9) := hB9
    clear hB9
    go_wp2_with fail
    go_ret
    exact ⟨rfl, HB9.out⟩
  by_cases hlong : 1125899906842624 < win
  · go_enter Try.func5, Try.ntmps5
    go_wp2_with fail
    refine (heads_any _).mono ?_
    rintro e w9 ⟨rfl, hB9⟩
    have HB9 : Hid (Below w.heap.size w w9) := hB9
    clear hB9
    go_wp2_with fail
    go_ret
    exact ⟨rfl, HB9.out⟩
  have HWIN : Hid (timeB win = true) := timeB_iff.2 ⟨by omega, by omega⟩
  go_enter Try.func5, Try.ntmps5
  go_wp2_with fail
  go_loopw [7, 8, 9, 10] (fun va vt vs vi wr => ∃ (i q ca tc : Nat) (a ta : Option Addr) (t : Int) (F H : List Tm), va = .slice a q ca ∧ vt = .int .i64 t ∧ vs = .slice ta i tc ∧ vi = .int .i64 i ∧ i ≤ n ∧ q ≤ i ∧ 0 ≤ t ∧ t ≤ (i : Int) * 1099511627777 ∧ Hid (F.length = q ∧ q ≤ ca ∧ Knows m win F H t ∧ H.length = i ∧ H.map (·.2) = (ts.take H.length).map (·.2) ∧ (∀ y ∈ H, 0 ≤ y.1 ∧ y.1 ≤ t) ∧ RowT wr w.heap.size a q ca F ∧ RowI wr w.heap.size ta i tc (H.map (·.1)) ∧ Below w.heap.size w wr))
    (fun _ _ _ vi _ => n - (intOf vi).toNat)
  case atStart => exact ⟨0, 0, 0, 0, none, none, 0, [], [], rfl, rfl, rfl, rfl, Nat.zero_le _, Nat.le_refl _, Int.le_refl _, by omega, rfl, Nat.le_refl _, knows_nil m win, rfl, rfl, fun y hy => (by cases hy), RowT.nil _ _, RowI.nil _ _, Below.refl _ _⟩
  case round =>
    obtain ⟨i, q, ca, tc, a, ta, t, F, H, rfl, rfl, rfl, rfl, hin, hqi, ht0, ht1, HF⟩ := hrel
    by_cases hlt : i < n
    · have hi' : i < ts.length := by have := HN.out; omega
      have HB : Hid (Below w.heap.size w wr) := HF.out.2.2.2.2.2.2.2.2
      obtain ⟨xb, xo, rfl, hc0, hc1⟩ := HT.out.2 i hi'
      obtain ⟨x, hx⟩ : ∃ x, ts[i]?.getD (0, 0) = x := ⟨_, rfl⟩
      rw [hx] at hc0 hc1
      have HX : Hid (∀ U, Below w.heap.size w U → U.cell? ⟨xb, xo + i * 2, none⟩ = some (.int .i64 x.1) ∧ U.cell? ⟨xb, xo + i * 2 + 1, none⟩ = some (.int .i64 x.2)) := fun U hU =>
        ⟨(hU.cell (p := ⟨xb, xo + i * 2, none⟩) (lt_of_cell hc0)).trans hc0, (hU.cell (p := ⟨xb, xo + i * 2 + 1, none⟩) (lt_of_cell hc1)).trans hc1⟩
      have HXI : Hid (ts[i]?.getD (0, 0) = x ∧ i < ts.length) := ⟨hx, hi'⟩
      obtain ⟨hw0, hw1⟩ := HX.out wr HB.out
      have hlt' : (i : Int) < (n : Int) := by omega
      clear hx hi' hc0 hc1
      by_cases h1 : x.1 < 0
      · go_wp2_with fail
        refine (heads_any _).mono ?_
        rintro e w9 ⟨rfl, hB9⟩
        have HB9 : Hid (Below w.heap.size w w9) := Below.on HB.out hB9
        clear hB9
        go_wp2_with fail
        go_ret
        exact ⟨rfl, HB9.out⟩
      by_cases h2 : 1099511627776 < x.1
      · go_wp2_with fail
        refine (heads_any _).mono ?_
        rintro e w9 ⟨rfl, hB9⟩
        have HB9 : Hid (Below w.heap.size w w9) := Below.on HB.out hB9
        clear hB9
        go_wp2_with fail
        go_ret
        exact ⟨rfl, HB9.out⟩
      by_cases h3 : x.2 < 0
      · go_wp2_with fail
        refine (heads_any _).mono ?_
        rintro e w9 ⟨rfl, hB9⟩
        have HB9 : Hid (Below w.heap.size w w9) := Below.on HB.out hB9
        clear hB9
        go_wp2_with fail
        go_ret
        exact ⟨rfl, HB9.out⟩
      by_cases h4 : 1152921504606846976 < x.2
      · go_wp2_with fail
        refine (heads_any _).mono ?_
        rintro e w9 ⟨rfl, hB9⟩
        have HB9 : Hid (Below w.heap.size w w9) := Below.on HB.out hB9
        clear hB9
        go_wp2_with fail
        go_ret
        exact ⟨rfl, HB9.out⟩
      obtain ⟨t', ht'⟩ : ∃ t', t + x.1 + 1 = t' := ⟨_, rfl⟩
      have hs1 : IntKind.i64.wrap (t + x.1) = t + x.1 := by rw [IntKind.wrap_i64]; omega
      have hs2 : IntKind.i64.wrap (t + x.1 + 1) = t' := by rw [IntKind.wrap_i64]; omega
      have hP : putB m F t' x.2 win = true := putB_iff.2 ⟨HF.out.2.2.1.ok, entB_iff.2 ⟨⟨by show (0 : Int) ≤ t'; omega, by show t' ≤ _; omega⟩, by show (0 : Int) ≤ x.2; omega, by show x.2 ≤ _; omega⟩, HWIN.out, above_mono HF.out.2.2.1.ok HF.out.2.2.1.le (by omega)⟩
      have hKn := knows_put HF.out.2.2.1 hP (by omega)
      have hlen := putL_len m F t' x.2 win
      have hE1 := (putE_yes hP).1
      obtain ⟨S, hS⟩ : ∃ S, putL m F t' x.2 win = S := ⟨_, rfl⟩
      rw [hS] at hKn hlen
      obtain ⟨k, hk⟩ : ∃ k, S.length = k := ⟨_, rfl⟩
      obtain ⟨H', hH'⟩ : ∃ H', H ++ [(t', x.2)] = H' := ⟨_, rfl⟩
      rw [hH'] at hKn
      have hkq : k ≤ i + 1 := by rw [← hk]; have := HF.out.1; omega
      have hHl : H'.length = i + 1 := by rw [← hH', List.length_append, HF.out.2.2.2.1]; rfl
      have hH2 : H'.map (·.2) = (ts.take H'.length).map (·.2) := by
        rw [hHl, take_snoc HXI.out.2 HXI.out.1, ← hH', List.map_append, List.map_append, HF.out.2.2.2.2.1, HF.out.2.2.2.1]
        rfl
      have hHb : ∀ y ∈ H', 0 ≤ y.1 ∧ y.1 ≤ t' := fun y hy => by
        rw [← hH'] at hy
        rcases List.mem_append.1 hy with hy | hy
        · have := HF.out.2.2.2.2.2.1 y hy; omega
        · simp at hy; subst hy; show (0 : Int) ≤ t' ∧ t' ≤ t'; omega
      have hlast : (t', x.2) ∈ H' := by rw [← hH']; simp
      have hlastn : newB t' win (t', x.2) = true := by unfold newB; have := timeB_iff.1 HWIN.out; simp; omega
      have HS : Hid (S.length = k ∧ Knows m win S H' t' ∧ H'.length = i + 1 ∧ H'.map (·.2) = (ts.take H'.length).map (·.2) ∧ (∀ y ∈ H', 0 ≤ y.1 ∧ y.1 ≤ t') ∧ 0 ≤ t' ∧ t' ≤ ((i + 1 : Nat) : Int) * 1099511627777 ∧ (t', x.2) ∈ H' ∧ newB t' win (t', x.2) = true ∧ t' ≤ 1125899906842624) := ⟨hk, hKn, hHl, hH2, hHb, by omega, by omega, hlast, hlastn, by omega⟩
      obtain ⟨ta1, tc1, w1, r1, RI1, hBI, hKeep⟩ := app_int wr w.heap.size ta i tc (H.map (·.1)) HF.out.2.2.2.2.2.2.2.1 HB.out.size t' (by omega)
      have e1 : H.map (·.1) ++ [t'] = H'.map (·.1) := by rw [← hH', List.map_append]; rfl
      rw [e1] at RI1
      have hRF := hKeep a q ca F HF.out.2.2.2.2.2.2.1
      have A1 : Hid ((Builtin.append_ #[37, 37] 37 #[.slice ta i tc, .slice (some ⟨wr.heap.size, 0, none⟩) 1 1]).run Try.prog (wr.alloc (.cells #[.int .i64 t'] 3)) = .ok (.slice ta1 (i + 1) tc1) w1) := r1
      have HB1 : Hid (Below w.heap.size w w1) := HB.out.trans hBI
      have HR1 : Hid (RowI w1 w.heap.size ta1 (i + 1) tc1 (H'.map (·.1))) := RI1
      have c1 := put_is a ca F t' x.2 win m w1 hRF.tims q HF.out.1 HF.out.2.1 (by omega) S hS k hk 0 hE1
      have hk8 : errI m S = 0 := by simp [errI, hKn.ok]
      have HCK : Hid (errI m S = 0) := hk8
      obtain ⟨hv0, hv1⟩ := HX.out w1 HB1.out
      clear hP hKn hlen hE1 hS hk hH' hHl hH2 hHb hlast hlastn ht' HF ht1 ht0 r1 RI1 hBI hKeep hRF e1 hk8
      go_wp2_with (at_builtin; refine Lib.wpList_append_run _ rfl (.tmp 74) (.tmp 76) 37 37 rfl (.slice ta i tc) (.slice (some ⟨wr.heap.size, 0, none⟩) 1 1) rfl rfl (.slice ta1 (i + 1) tc1) w1 A1.out ?_)
      refine c1.mono ?_
      rintro e w2 ⟨a2, ca2, rfl, hR2, hB2⟩
      have HB2 : Hid (Below w.heap.size w w2) := Below.on HB1.out hB2
      have HR2 : Hid (RowT w2 w.heap.size a2 k ca2 S ∧ k ≤ ca2 ∧ RowI w2 w.heap.size ta1 (i + 1) tc1 (H'.map (·.1))) := ⟨hR2.mono HB1.out.size, hR2.max.1, HR1.out.below hB2⟩
      have c2 := check_is a2 ca2 S m w2 HR2.out.1.tims k HS.out.1 0 HCK.out
      clear c1 hR2 hB2 HB1 HR1 hv0 hv1 hs1 hs2 hw0 hw1 A1 HCK HB
      go_wp2_with fail
      refine c2.mono ?_
      rintro e w3 ⟨rfl, hB3⟩
      have HB3 : Hid (Below w.heap.size w w3) := Below.on HB2.out hB3
      have HR3 : Hid (RowT w3 w.heap.size a2 k ca2 S ∧ k ≤ ca2 ∧ RowI w3 w.heap.size ta1 (i + 1) tc1 (H'.map (·.1))) := ⟨HR2.out.1.below hB3 (Nat.le_refl _), HR2.out.2.1, HR2.out.2.2.below hB3⟩
      obtain ⟨hv0, hv1⟩ := HX.out w3 HB3.out
      clear c2 hB3 HB2 HR2 HX
      go_wp2_with fail
      clear hv0 hv1
      go_loop [13, 14] (fun vb vj => ∃ (j : Nat) (b : Int), vj = .int .i64 j ∧ vb = .int .i64 b ∧ j ≤ i + 1 ∧ Hid ((∃ y ∈ H', newB t' win y = true ∧ y.2 = b) ∧ ∀ y ∈ H'.take j, newB t' win y = true → ¬ beatB y.2 b m = true))
        (fun _ vj => i + 1 - (intOf vj).toNat)
      case atStart => exact ⟨0, x.2, rfl, rfl, Nat.zero_le _, ⟨_, HS.out.2.2.2.2.2.2.2.1, HS.out.2.2.2.2.2.2.2.2.1, rfl⟩, fun y hy => by simp at hy⟩
      case round =>
        obtain ⟨j, b, rfl, rfl, hji, HJ⟩ := hrel
        by_cases hjl : j ≤ i
        · have hj' : j < H'.length := by have := HS.out.2.2.1; omega
          have hjn : j < ts.length := by have := HN.out; omega
          obtain ⟨y, hy⟩ : ∃ y, H'[j]?.getD (0, 0) = y := ⟨_, rfl⟩
          have hym : y ∈ H' := by rw [← hy, List.getElem?_eq_getElem hj']; exact List.getElem_mem hj'
          have hyb := HS.out.2.2.2.2.1 y hym
          have hwb := timeB_iff.1 HWIN.out
          obtain ⟨yb, yo, rfl, hy0⟩ := HR3.out.2.2.at j (by omega)
          rw [fst_at hj', hy] at hy0
          obtain ⟨_, _, eA, _, hl1⟩ := HT.out.2 j hjn
          cases eA
          rw [← snd_at HS.out.2.2.2.1 hj', hy] at hl1
          have g1 : w3.cell? ⟨xb, xo + j * 2 + 1, none⟩ = some (.int .i64 y.2) := (HB3.out.cell (p := ⟨xb, xo + j * 2 + 1, none⟩) (lt_of_cell hl1)).trans hl1
          have hs4 : IntKind.i64.wrap (y.1 + win) = y.1 + win := by have := HS.out.2.2.2.2.2.2.2.2.2; rw [IntKind.wrap_i64]; omega
          have hjn' : (j : Int) < (n : Int) := by omega
          have hji' : (j : Int) ≤ (i : Int) := by omega
          have hji1 : (j : Int) < ((i + 1 : Nat) : Int) := by omega
          have hji2 : j < i + 1 := by omega
          have HY : Hid (∀ z ∈ H'.take (j + 1), z ∈ H'.take j ∨ z = y) := fun z hz => mem_take_snoc hj' hy hz
          have HYM : Hid (y ∈ H') := hym
          clear hy hym hyb hl1 hj' hjn hwb
          cases hnw : newB t' win y with
          | false =>
            have hd1 : decide (t' ≤ y.1 + win) = false := hnw
            have HJ' : Hid ((∃ y ∈ H', newB t' win y = true ∧ y.2 = b) ∧ ∀ y ∈ H'.take (j + 1), newB t' win y = true → ¬ beatB y.2 b m = true) := ⟨HJ.out.1, fun z hz hzn => by
              rcases HY.out z hz with hz | rfl
              · exact HJ.out.2 z hz hzn
              · rw [hnw] at hzn; cases hzn⟩
            clear hnw HY HYM
            go_wp2_with fail
            go_round
            case rel => exact ⟨j + 1, b, by go_num, rfl, by omega, HJ'.out⟩
            case measure => simp [intOf]; omega
          | true =>
            have hd1 : decide (t' ≤ y.1 + win) = true := hnw
            cases hbt : beatB y.2 b m with
            | false =>
              have HJ' : Hid ((∃ y ∈ H', newB t' win y = true ∧ y.2 = b) ∧ ∀ y ∈ H'.take (j + 1), newB t' win y = true → ¬ beatB y.2 b m = true) := ⟨HJ.out.1, fun z hz hzn => by
                rcases HY.out z hz with hz | rfl
                · exact HJ.out.2 z hz hzn
                · rw [hbt]; simp⟩
              have hcs : (m = true ∧ decide (b < y.2) = false) ∨ (m = false ∧ decide (y.2 < b) = false) := by
                cases m
                · exact .inr ⟨rfl, hbt⟩
                · exact .inl ⟨rfl, hbt⟩
              clear hnw HY HYM hbt
              rcases hcs with ⟨rfl, hd2⟩ | ⟨rfl, hd2⟩
              all_goals (
                go_wp2_with fail
                go_round
                case rel => exact ⟨j + 1, b, by go_num, rfl, by omega, HJ'.out⟩
                case measure => simp [intOf]; omega)
            | true =>
              have HJ' : Hid ((∃ z ∈ H', newB t' win z = true ∧ z.2 = y.2) ∧ ∀ z ∈ H'.take (j + 1), newB t' win z = true → ¬ beatB z.2 y.2 m = true) := ⟨⟨y, HYM.out, hnw, rfl⟩, fun z hz hzn => by
                rcases HY.out z hz with hz | rfl
                · exact beat_not (HJ.out.2 z hz hzn) (beat_asym hbt)
                · cases m <;> simp [beatB]⟩
              have hcs : (m = true ∧ decide (b < y.2) = true) ∨ (m = false ∧ decide (y.2 < b) = true) := by
                cases m
                · exact .inr ⟨rfl, hbt⟩
                · exact .inl ⟨rfl, hbt⟩
              clear hnw HY HYM hbt
              rcases hcs with ⟨rfl, hd2⟩ | ⟨rfl, hd2⟩
              all_goals (
                go_wp2_with fail
                go_round
                case rel => exact ⟨j + 1, y.2, by go_num, rfl, by omega, HJ'.out⟩
                case measure => simp [intOf]; omega)
        · obtain rfl : j = i + 1 := by omega
          have hbest := knows_best HS.out.2.1 HJ.out.1 (fun y hy hn => HJ.out.2 y (by rw [take_all HS.out.2.2.1]; exact hy) hn)
          have c4 := best_is a2 ca2 S w3 HR3.out.1.tims k HS.out.1 b hbest.1 true hbest.2
          have hno : ¬ (((i + 1 : Nat) : Int) ≤ (i : Int)) := by omega
          have hno2 : ¬ (i + 1 ≤ i) := by omega
          clear hbest HJ
          go_wp2_with fail
          refine c4.mono ?_
          rintro e w4 ⟨rfl, rfl⟩
          clear c4
          go_wp2_with fail
          go_roundw
          case rel => exact ⟨i + 1, k, ca2, tc1, a2, ta1, t', S, H', rfl, rfl, rfl, by go_num, by omega, by omega, HS.out.2.2.2.2.2.1, HS.out.2.2.2.2.2.2.1, HS.out.1, HR3.out.2.1, HS.out.2.1, HS.out.2.2.1, HS.out.2.2.2.1, HS.out.2.2.2.2.1, HR3.out.1, HR3.out.2.2, HB3.out⟩
          case measure => simp [intOf]; omega
    · obtain rfl : i = n := by omega
      have HB : Hid (Below w.heap.size w wr) := HF.out.2.2.2.2.2.2.2.2
      clear HF ht1 ht0
      go_wp2_with fail
      refine (heads_any _).mono ?_
      rintro e w9 ⟨rfl, hB9⟩
      have HB9 : Hid (Below w.heap.size w w9) := Below.on HB.out hB9
      clear hB9
      go_wp2_with fail
      go_ret
      exact ⟨rfl, HB9.out⟩
end Go.Proofs.Ytdacbmjahhefcaa
