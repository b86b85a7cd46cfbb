/- The walk of FilterTurns. -/
import Derived.Test.YtdacbmjahhefcaaHeads
import Derived.Test.YtdacbmjahhefcaaTurn
namespace Go.Proofs.Ytdacbmjahhefcaa
open Go.ChangeShapes Go.WideShapes Go.ChangeAt Go.RowKit Go.Shelf
set_option linter.unusedVariables false
set_option linter.unusedSimpArgs false

set_option maxRecDepth 100000 in
set_option maxHeartbeats 4000000 in
theorem turns_walk (A : Option Addr) (cap : Nat) (ts : List Tm) (win : Int) (w : World) (hT : TimsAt w A ts) (hA : A = none → cap = 0) (hcp : ts.length ≤ cap) (hr : ts.length * 16 ≤ 140737488351232) :
    Calls Try.prog 6 #[.slice A ts.length cap, .int .i64 win] w fun e w' => e = .returned (.bool true) ∧ Below w.heap.size w w' := by
  obtain ⟨n, hn⟩ : ∃ n, ts.length = n := ⟨_, rfl⟩
  have HN : Hid (ts.length = n) := hn
  have HT : Hid (TimsAt w A ts) := hT
  have hml : ts.length ≤ 9223372036854775807 := hT.1
  rw [hn] at hml ⊢
  clear hn hcp hr hT hA
  by_cases hbig : 200 < n
  · have hb2 : (200 : Int) < (n : Int) := by omega
    go_enter Try.func6, Try.ntmps6
    go_wp2_with fail
    refine (heads_any _).mono ?_
    rintro e w9 ⟨rfl, hB9⟩
    have HB9 : Hid (Below w.heap.size w w9) := hB9
    clear hB9
    go_wp2_with fail
    go_ret
    exact ⟨rfl, HB9.out⟩
  have hb2 : ¬ (200 : Int) < (n : Int) := by omega
  by_cases hneg : win < 0
  · go_enter Try.func6, Try.ntmps6
    go_wp2_with fail
    refine (heads_any _).mono ?_
    rintro e w9 ⟨rfl, hB9⟩
    have HB9 : Hid (Below w.heap.size w w9) := hB9
    clear hB9
    go_wp2_with fail
    go_ret
    exact ⟨rfl, HB9.out⟩
  by_cases hlong : 1125899906842624 < win
  · go_enter Try.func6, Try.ntmps6
    go_wp2_with fail
    refine (heads_any _).mono ?_
    rintro e w9 ⟨rfl, hB9⟩
    have HB9 : Hid (Below w.heap.size w w9) := hB9
    clear hB9
    go_wp2_with fail
    go_ret
    exact ⟨rfl, HB9.out⟩
  have HWIN : Hid (timeB win = true) := timeB_iff.2 ⟨by omega, by omega⟩
  go_enter Try.func6, Try.ntmps6
  go_wp2_with fail
  go_loopw [5, 6, 7, 8] (fun va vb vt vi wr => ∃ (i q ca cb : Nat) (a b : Option Addr) (t : Int) (F : List Tm), va = .slice a q ca ∧ vb = .slice b q cb ∧ vt = .int .i64 t ∧ vi = .int .i64 i ∧ i ≤ n ∧ q ≤ i ∧ 0 ≤ t ∧ t ≤ (i : Int) * 1099511627777 ∧ Hid (F.length = q ∧ q ≤ ca ∧ q ≤ cb ∧ chk true none F = true ∧ Low F ∧ (∀ x ∈ F, x.1 ≤ t) ∧ TimsAt wr a F ∧ TimsAt wr b (F.map turn) ∧ Below w.heap.size w wr))
    (fun _ _ _ vi _ => n - (intOf vi).toNat)
  case atStart => exact ⟨0, 0, 0, 0, none, none, 0, [], rfl, rfl, rfl, rfl, Nat.zero_le _, Nat.le_refl _, Int.le_refl _, by omega, rfl, Nat.le_refl _, Nat.le_refl _, rfl, fun x hx => (by cases hx), fun x hx => (by cases hx), TimsAt.nil _ _, TimsAt.nil _ _, Below.refl _ _⟩
  case round =>
    obtain ⟨i, q, ca, cb, a, b, t, F, rfl, rfl, rfl, rfl, hin, hqi, ht0, ht1, HF⟩ := hrel
    by_cases hlt : i < n
    · have hi' : i < ts.length := by have := HN.out; omega
      have HB : Hid (Below w.heap.size w wr) := HF.out.2.2.2.2.2.2.2.2
      obtain ⟨xb, xo, rfl, hc0, hc1⟩ := HT.out.2 i hi'
      obtain ⟨x, hx⟩ : ∃ x, ts[i]?.getD (0, 0) = x := ⟨_, rfl⟩
      rw [hx] at hc0 hc1
      have HX : Hid (∀ U, Below w.heap.size w U → U.cell? ⟨xb, xo + i * 2, none⟩ = some (.int .i64 x.1) ∧ U.cell? ⟨xb, xo + i * 2 + 1, none⟩ = some (.int .i64 x.2)) := fun U hU =>
        ⟨(hU.cell (p := ⟨xb, xo + i * 2, none⟩) (lt_of_cell hc0)).trans hc0, (hU.cell (p := ⟨xb, xo + i * 2 + 1, none⟩) (lt_of_cell hc1)).trans hc1⟩
      obtain ⟨hw0, hw1⟩ := HX.out wr HB.out
      have hlt' : (i : Int) < (n : Int) := by omega
      clear hx hi' hc0 hc1
      by_cases h1 : x.1 < 0
      · go_wp2_with fail
        refine (heads_any _).mono ?_
        rintro e w9 ⟨rfl, hB9⟩
        have HB9 : Hid (Below w.heap.size w w9) := Below.on HB.out hB9
        clear hB9
        go_wp2_with fail
        go_ret
        exact ⟨rfl, HB9.out⟩
      by_cases h2 : 1099511627776 < x.1
      · go_wp2_with fail
        refine (heads_any _).mono ?_
        rintro e w9 ⟨rfl, hB9⟩
        have HB9 : Hid (Below w.heap.size w w9) := Below.on HB.out hB9
        clear hB9
        go_wp2_with fail
        go_ret
        exact ⟨rfl, HB9.out⟩
      by_cases h3 : x.2 < 0
      · go_wp2_with fail
        refine (heads_any _).mono ?_
        rintro e w9 ⟨rfl, hB9⟩
        have HB9 : Hid (Below w.heap.size w w9) := Below.on HB.out hB9
        clear hB9
        go_wp2_with fail
        go_ret
        exact ⟨rfl, HB9.out⟩
      by_cases h4 : 1000 < x.2
      · go_wp2_with fail
        refine (heads_any _).mono ?_
        rintro e w9 ⟨rfl, hB9⟩
        have HB9 : Hid (Below w.heap.size w w9) := Below.on HB.out hB9
        clear hB9
        go_wp2_with fail
        go_ret
        exact ⟨rfl, HB9.out⟩
      obtain ⟨t', ht'⟩ : ∃ t', t + x.1 + 1 = t' := ⟨_, rfl⟩
      have hs1 : IntKind.i64.wrap (t + x.1) = t + x.1 := by rw [IntKind.wrap_i64]; omega
      have hs2 : IntKind.i64.wrap (t + x.1 + 1) = t' := by rw [IntKind.wrap_i64]; omega
      obtain ⟨u, hu⟩ : ∃ u, 1000 - x.2 = u := ⟨_, rfl⟩
      have hs3 : IntKind.i64.wrap (1000 - x.2) = u := by rw [IntKind.wrap_i64]; omega
      have hP : putB true F t' x.2 win = true := putB_iff.2 ⟨HF.out.2.2.2.1, entB_iff.2 ⟨⟨by show (0 : Int) ≤ t'; omega, by show t' ≤ _; omega⟩, by show (0 : Int) ≤ x.2; omega, by show x.2 ≤ _; omega⟩, HWIN.out, above_mono HF.out.2.2.2.1 HF.out.2.2.2.2.2.1 (by omega)⟩
      obtain ⟨hP2, hL2, hLow⟩ := put_turn hP HF.out.2.2.2.2.1 ⟨by omega, by omega⟩
      have hle := putL_le hP
      have hlen := putL_len true F t' x.2 win
      have hck := chk_putL hP
      rw [hu] at hP2 hL2
      have hE1 := (putE_yes hP).1
      have hE2 := (putE_yes hP2).1
      obtain ⟨S, hS⟩ : ∃ S, putL true F t' x.2 win = S := ⟨_, rfl⟩
      rw [hS] at hL2 hLow hle hlen hck
      obtain ⟨k, hk⟩ : ∃ k, S.length = k := ⟨_, rfl⟩
      have hkm : (S.map turn).length = k := by rw [List.length_map]; exact hk
      have hkq : k ≤ i + 1 := by rw [← hk]; have := HF.out.1; omega
      have HS : Hid (S.length = k ∧ (S.map turn).length = k ∧ chk true none S = true ∧ Low S ∧ (∀ x ∈ S, x.1 ≤ t') ∧ 0 ≤ t' ∧ t' ≤ ((i + 1 : Nat) : Int) * 1099511627777) := ⟨hk, hkm, hck, hLow, hle, by omega, by omega⟩
      have c1 := put_is a ca F t' x.2 win true wr HF.out.2.2.2.2.2.2.1 q HF.out.1 HF.out.2.1 (by omega) S hS k hk 0 hE1
      have HC2 : Hid (∀ U, Below wr.heap.size wr U → Calls Try.prog 7 #[.slice b q cb, .int .i64 t', .int .i64 u, .int .i64 win, .bool false] U fun e w' => ∃ va vc, e = .returned (.tuple #[.slice va k vc, .int .i64 0]) ∧ RowT w' U.heap.size va k vc (S.map turn) ∧ Below U.heap.size U w') := fun U hU =>
        put_is b cb (F.map turn) t' u win false U (HF.out.2.2.2.2.2.2.2.1.below hU (Nat.le_refl _)) q (by rw [List.length_map]; exact HF.out.1) HF.out.2.2.1 (by omega) (S.map turn) hL2 k hkm 0 hE2
      clear hP hP2 hL2 hLow hle hlen hck hE1 hE2 hS hk hkm ht' hu HF ht1 ht0
      go_wp2_with fail
      refine c1.mono ?_
      rintro e w1 ⟨a1, ca1, rfl, hR1, hB1⟩
      have c2 := HC2.out w1 hB1
      have HB1 : Hid (Below w.heap.size w w1) := Below.on HB.out hB1
      have HR1 : Hid (TimsAt w1 a1 S ∧ k ≤ ca1) := ⟨hR1.tims, hR1.max.1⟩
      obtain ⟨hv0, hv1⟩ := HX.out w1 HB1.out
      clear c1 hR1 hB1 HC2 HB hw0 hw1
      go_wp2_with fail
      refine c2.mono ?_
      rintro e w2 ⟨a2, ca2, rfl, hR2, hB2⟩
      have HB2 : Hid (Below w.heap.size w w2) := Below.on HB1.out hB2
      have HR2 : Hid (TimsAt w2 a1 S ∧ k ≤ ca1 ∧ TimsAt w2 a2 (S.map turn) ∧ k ≤ ca2) := ⟨HR1.out.1.below hB2 (Nat.le_refl _), HR1.out.2, hR2.tims, hR2.max.1⟩
      clear c2 hR2 hB2 HB1 HR1 hv0 hv1 hs1 hs2 hs3 HX
      go_wp2_with fail
      go_loopw [13] (fun vj wq => ∃ (j : Nat), vj = .int .i64 j ∧ j ≤ k ∧ Hid (Below w2.heap.size w2 wq))
        (fun vj _ => k - (intOf vj).toNat)
      case atStart => exact ⟨0, rfl, Nat.zero_le _, Below.refl _ _⟩
      case round =>
        obtain ⟨j, rfl, hjk, HJ⟩ := hrel
        by_cases hjl : j < k
        · have hj' : j < S.length := by have := HS.out.1; omega
          obtain ⟨yb, yo, rfl, hy0, hy1⟩ := HR2.out.1.2 j hj'
          obtain ⟨zb, zo, rfl, hz0, hz1⟩ := HR2.out.2.2.1.2 j (by rw [List.length_map]; exact hj')
          rw [turn_at hj'] at hz0 hz1
          obtain ⟨y, hy⟩ : ∃ y, S[j]?.getD (0, 0) = y := ⟨_, rfl⟩
          have hyl : 0 ≤ y.2 ∧ y.2 ≤ 1000 := HS.out.2.2.2.1 y (by rw [← hy, List.getElem?_eq_getElem hj']; exact List.getElem_mem hj')
          rw [hy] at hy0 hy1 hz0 hz1
          obtain ⟨z, hz⟩ : ∃ z, 1000 - y.2 = z := ⟨_, rfl⟩
          have hs4 : IntKind.i64.wrap (1000 - z) = y.2 := by rw [IntKind.wrap_i64]; omega
          have hz0' : w2.cell? ⟨zb, zo + j * 2, none⟩ = some (.int .i64 y.1) := hz0
          have hz1' : w2.cell? ⟨zb, zo + j * 2 + 1, none⟩ = some (.int .i64 z) := by rw [← hz]; exact hz1
          have g0 : wr.cell? ⟨yb, yo + j * 2, none⟩ = some (.int .i64 y.1) := (HJ.out.cell (p := ⟨yb, yo + j * 2, none⟩) (lt_of_cell hy0)).trans hy0
          have g1 : wr.cell? ⟨yb, yo + j * 2 + 1, none⟩ = some (.int .i64 y.2) := (HJ.out.cell (p := ⟨yb, yo + j * 2 + 1, none⟩) (lt_of_cell hy1)).trans hy1
          have g2 : wr.cell? ⟨zb, zo + j * 2, none⟩ = some (.int .i64 y.1) := (HJ.out.cell (p := ⟨zb, zo + j * 2, none⟩) (lt_of_cell hz0')).trans hz0'
          have g3 : wr.cell? ⟨zb, zo + j * 2 + 1, none⟩ = some (.int .i64 z) := (HJ.out.cell (p := ⟨zb, zo + j * 2 + 1, none⟩) (lt_of_cell hz1')).trans hz1'
          have hjk' : (j : Int) < (k : Int) := by omega
          clear hy hyl hz hz0 hz1 hz0' hz1' hy0 hy1 hj'
          go_upto_region 19 with fail
          go_quiet (fail)
          go_wp2_with fail
          go_roundw
          case rel => exact ⟨j + 1, by go_num, by omega, below_drewN HJ.out _⟩
          case measure => simp [intOf]; omega
        · obtain rfl : j = k := by omega
          go_wp2_with fail
          go_roundw
          case rel => exact ⟨i + 1, j, ca1, ca2, a1, a2, t', S, rfl, rfl, rfl, by go_num, by omega, by omega, HS.out.2.2.2.2.2.1, HS.out.2.2.2.2.2.2, HS.out.1, HR2.out.2.1, HR2.out.2.2.2, HS.out.2.2.1, HS.out.2.2.2.1, HS.out.2.2.2.2.1, HR2.out.1.below HJ.out (Nat.le_refl _), HR2.out.2.2.1.below HJ.out (Nat.le_refl _), Below.on HB2.out HJ.out⟩
          case measure => simp [intOf]; omega
    · obtain rfl : i = n := by omega
      have HB : Hid (Below w.heap.size w wr) := HF.out.2.2.2.2.2.2.2.2
      clear HF ht1 ht0
      go_wp2_with fail
      refine (heads_any _).mono ?_
      rintro e w9 ⟨rfl, hB9⟩
      have HB9 : Hid (Below w.heap.size w w9) := Below.on HB.out hB9
      clear hB9
      go_wp2_with fail
      go_ret
      exact ⟨rfl, HB9.out⟩
end Go.Proofs.Ytdacbmjahhefcaa
