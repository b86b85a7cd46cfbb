/- The walk of FilterOld. -/
import Derived.Test.YtdacbmjahhefcaaHeads
namespace Go.Proofs.Ytdacbmjahhefcaa
open Go.ChangeShapes Go.WideShapes Go.ChangeAt Go.RowKit Go.Shelf
set_option linter.unusedVariables false
set_option linter.unusedSimpArgs false

theorem eq28 (f t : Int) (w : World) : (binOp .eql 28 (.agg #[.int .i64 f, .int .i64 t]) (.agg #[.int .i64 f, .int .i64 t])).run Try.prog w = .ok (.bool true) w := by
  have hu : Try.prog.underlying 28 = some (.struct (Try.prog.fieldsOf 28)) := by kernel_rfl
  have hs : Try.prog.stoodInHeld 28 = false := by kernel_rfl
  have h := run_equalIn_struct (P := Try.prog) w 9999 28 #[.int .i64 f, .int .i64 t] #[.int .i64 f, .int .i64 t] hu hs
  simp only [binOp]
  simp [Op.equal, Op.maxDepth, h, Op.eqFields, go_sem]
theorem filter_at {f : Tm → Bool} {l : List Tm} {i : Nat} {x : Tm} (hi : i < l.length) (hx : l[i]?.getD (0, 0) = x) (h : f x = true) (r : List Tm) : (l.filter f ++ r)[((l.take i).filter f).length]?.getD (0, 0) = x ∧ ((l.take i).filter f).length < (l.filter f).length := by
  have e : l = l.take (i + 1) ++ l.drop (i + 1) := (List.take_append_drop _ _).symm
  have e2 : l.filter f = (l.take i).filter f ++ ([x] ++ (l.drop (i + 1)).filter f) := by
    conv => lhs; rw [e]
    rw [List.filter_append, filter_hit hi hx h, List.append_assoc]
  constructor
  · rw [e2, List.append_assoc, List.getElem?_append_right (Nat.le_refl _), Nat.sub_self]
    rfl
  · rw [e2]; simp
set_option maxRecDepth 100000 in
set_option maxHeartbeats 4000000 in
theorem old_walk (A : Option Addr) (cap : Nat) (ts : List Tm) (t v win : Int) (w : World) (hT : TimsAt w A ts) (hA : A = none → cap = 0) (hcp : ts.length ≤ cap) (hr : ts.length * 16 ≤ 140737488351232) :
    Calls Try.prog 3 #[.slice A ts.length cap, .int .i64 t, .int .i64 v, .int .i64 win] w fun e w' => e = .returned (.bool true) ∧ Below w.heap.size w w' := by
  obtain ⟨n, hn⟩ : ∃ n, ts.length = n := ⟨_, rfl⟩
  have HN : Hid (ts.length = n) := hn
  have HT : Hid (TimsAt w A ts) := hT
  have hml : ts.length ≤ 9223372036854775807 := hT.1
  rw [hn] at hcp hr hml ⊢
  cases hP : putB true ts t v win with
  | false =>
    have c1 := put_is A cap ts t v win true w hT n hn hcp hr [] (putE_no hP).2 0 rfl 2 (putE_no hP).1
    clear hT hn hP
    go_enter Try.func3, Try.ntmps3
    go_wp2_with fail
    refine c1.mono ?_
    rintro e w1 ⟨va1, vc1, rfl, hR1, hB1⟩
    clear c1 hR1
    go_wp2_with fail
    refine (heads_any _).mono ?_
    rintro e w2 ⟨rfl, hB2⟩
    have HB2 : Hid (Below w.heap.size w w2) := Below.on hB1 hB2
    clear hB1 hB2
    go_wp2_with fail
    go_ret
    exact ⟨rfl, HB2.out⟩
  | true =>
    obtain ⟨hc, he, ht, ha⟩ := putB_iff.1 hP
    have hwin := timeB_iff.1 ht
    have HC : Hid (chk true none ts = true) := hc
    obtain ⟨F, hF⟩ : ∃ F, ts.filter (stayB true t v win) = F := ⟨_, rfl⟩
    obtain ⟨L, hL⟩ : ∃ L, F.length = L := ⟨_, rfl⟩
    obtain ⟨S, hS⟩ : ∃ S, F ++ [(t, v)] = S := ⟨_, rfl⟩
    have hSl : S.length = L + 1 := by rw [← hS, List.length_append, hL]; rfl
    have hLn : L ≤ n := by rw [← hL, ← hF, ← hn]; exact List.length_filter_le _ _
    have HF : Hid (ts.filter (stayB true t v win) = F ∧ F.length = L ∧ F ++ [(t, v)] = S ∧ S.length = L + 1) := ⟨hF, hL, hS, hSl⟩
    have c1 := put_is A cap ts t v win true w hT n hn hcp hr S (by rw [(putE_yes hP).2, hF, hS]) (L + 1) hSl 0 (putE_yes hP).1
    obtain ⟨N1, hN1⟩ : ∃ N1, L + 1 = N1 := ⟨_, rfl⟩
    have HN1 : Hid (L + 1 = N1) := hN1
    rw [hN1] at c1
    have hN1l : N1 ≤ 9223372036854775807 := by omega
    clear hT hn hP hc he ht ha hF hL hS hSl
    have hne := ne28
    have heq := eq28
    go_enter Try.func3, Try.ntmps3
    go_wp2_with fail
    refine c1.mono ?_
    rintro e w1 ⟨va1, vc1, rfl, hR1, hB1⟩
    have HR1 : Hid (TimsAt w1 va1 S) := hR1.tims
    have HB1 : Hid (Below w.heap.size w w1) := hB1
    clear c1 hR1 hB1
    go_wp2_with fail
    go_loopw [11, 12] (fun vk vi wr => ∃ (i k : Nat), vk = .int .i64 k ∧ vi = .int .i64 i ∧ i ≤ n ∧ k ≤ i ∧ Hid (((ts.take i).filter (stayB true t v win)).length = k) ∧ Hid (Below w1.heap.size w1 wr))
      (fun _ vi _ => n - (intOf vi).toNat)
    case atStart => exact ⟨0, 0, rfl, rfl, Nat.zero_le _, Nat.le_refl _, by simp [Hid], Below.refl _ _⟩
    case round =>
      obtain ⟨i, k, rfl, rfl, hin, hki, HK, HB⟩ := hrel
      by_cases hlt : i < n
      · have hi' : i < ts.length := by have := HN.out; omega
        have HBw : Hid (Below w.heap.size w wr) := Below.on HB1.out HB.out
        obtain ⟨b, o, rfl, hc0, hc1⟩ := HT.out.2 i hi'
        obtain ⟨x, hx⟩ : ∃ x, ts[i]?.getD (0, 0) = x := ⟨_, rfl⟩
        rw [hx] at hc0 hc1
        have hw0 : wr.cell? ⟨b, o + i * 2, none⟩ = some (.int .i64 x.1) := (HBw.out.cell (p := ⟨b, o + i * 2, none⟩) (lt_of_cell hc0)).trans hc0
        have hw1 : wr.cell? ⟨b, o + i * 2 + 1, none⟩ = some (.int .i64 x.2) := (HBw.out.cell (p := ⟨b, o + i * 2 + 1, none⟩) (lt_of_cell hc1)).trans hc1
        have hgx : ts[i]? = some x := by rw [← hx, List.getElem?_eq_getElem hi']; rfl
        have hxe := entB_iff.1 (((chk_iff true ts none).1 HC.out).1 x (List.mem_of_getElem? hgx))
        have hlt' : (i : Int) < (n : Int) := by omega
        have hsw : IntKind.i64.wrap (x.1 + win) = x.1 + win := by rw [IntKind.wrap_i64]; omega
        have HST := stay_iff true t v win x
        cases hst : stayB true t v win x with
        | false =>
          have HX : Hid ((ts.take (i + 1)).filter (stayB true t v win) = (ts.take i).filter (stayB true t v win)) := filter_miss hi' hx hst
          have hcs : (decide (t ≤ x.1 + win) = false) ∨ (decide (t ≤ x.1 + win) = true ∧ decide (v < x.2) = false) := by
            rw [hst] at HST
            simp only [beatB, cond_true] at HST
            by_cases h1 : x.1 + win < t
            · left; simp; omega
            · right
              simp [h1] at HST
              simp; omega
          clear HST hst hx hc0 hc1 hi' hgx hxe HBw
          rcases hcs with h1 | ⟨h1, h2⟩
          all_goals (
            go_upto_region 9 with fail
            go_quiet (fail)
            go_wp2_with fail
            go_roundw
            case rel => exact ⟨i + 1, k, rfl, by go_num, by omega, by omega, by unfold Hid; rw [HX.out]; exact HK.out, below_drewN HB.out _⟩
            case measure => simp [intOf]; omega)
        | true =>
          have HX : Hid ((ts.take (i + 1)).filter (stayB true t v win) = (ts.take i).filter (stayB true t v win) ++ [x]) := filter_hit hi' hx hst
          obtain ⟨hat, hkl⟩ := filter_at hi' hx hst [(t, v)]
          rw [HF.out.1, HF.out.2.2.1, HK.out] at hat
          rw [HF.out.1, HF.out.2.1, HK.out] at hkl
          obtain ⟨b1, o1, rfl, hm0, hm1⟩ := HR1.out.2 k (by have := HF.out.2.2.2; omega)
          rw [hat] at hm0 hm1
          have hn0 : wr.cell? ⟨b1, o1 + k * 2, none⟩ = some (.int .i64 x.1) := (HB.out.cell (p := ⟨b1, o1 + k * 2, none⟩) (lt_of_cell hm0)).trans hm0
          have hn1 : wr.cell? ⟨b1, o1 + k * 2 + 1, none⟩ = some (.int .i64 x.2) := (HB.out.cell (p := ⟨b1, o1 + k * 2 + 1, none⟩) (lt_of_cell hm1)).trans hm1
          have hkN : (k : Int) < (N1 : Int) := by have := HN1.out; omega
          have hkN3 : k < N1 := by have := HN1.out; omega
          have hkN2 : decide (N1 ≤ k) = false := by simp; omega
          have h1 : decide (t ≤ x.1 + win) = true := by
            rw [hst] at HST
            simp at HST
            simp; omega
          have h2 : decide (v < x.2) = true := by
            rw [hst] at HST
            simp [beatB] at HST
            simp; omega
          clear HST hst hx hc0 hc1 hi' hgx hxe HBw hat hkl hm0 hm1
          go_upto_region 9 with fail
          go_quiet (fail)
          go_wp2_with fail
          go_roundw
          case rel => exact ⟨i + 1, k + 1, by go_num, by go_num, by omega, by omega, by unfold Hid; rw [HX.out, List.length_append, HK.out]; rfl, below_drewN HB.out _⟩
          case measure => simp [intOf]; omega
      · obtain rfl : i = n := by omega
        have hkL : k = L := by
          have h1 := HK.out
          rw [take_all HN.out, HF.out.1, HF.out.2.1] at h1
          exact h1.symm
        subst hkL
        obtain ⟨b1, o1, rfl, hm0, hm1⟩ := HR1.out.2 k (by have := HF.out.2.2.2; omega)
        have hat : S[k]?.getD (0, 0) = (t, v) := by
          rw [← HF.out.2.2.1, ← HF.out.2.1, List.getElem?_append_right (Nat.le_refl _), Nat.sub_self]
          rfl
        rw [hat] at hm0 hm1
        have hn0 : wr.cell? ⟨b1, o1 + k * 2, none⟩ = some (.int .i64 t) := (HB.out.cell (p := ⟨b1, o1 + k * 2, none⟩) (lt_of_cell hm0)).trans hm0
        have hn1 : wr.cell? ⟨b1, o1 + k * 2 + 1, none⟩ = some (.int .i64 v) := (HB.out.cell (p := ⟨b1, o1 + k * 2 + 1, none⟩) (lt_of_cell hm1)).trans hm1
        have hkN : (k : Int) < (N1 : Int) := by have := HN1.out; omega
        have hs : IntKind.i64.wrap ((N1 : Int) - 1) = (k : Int) := by have := HN1.out; rw [IntKind.wrap_i64]; omega
        clear hat hm0 hm1
        go_wp2_with fail
        refine (heads_any _).mono ?_
        rintro e w2 ⟨rfl, hB2⟩
        have HB2 : Hid (Below w.heap.size w w2) := Below.on (Below.on HB1.out HB.out) hB2
        clear hB2
        go_wp2_with fail
        go_ret
        exact ⟨rfl, HB2.out⟩
end Go.Proofs.Ytdacbmjahhefcaa
