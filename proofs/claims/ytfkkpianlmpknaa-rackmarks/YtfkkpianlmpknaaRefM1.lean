/- The document's Mark. -/
import Derived.Test.YtfkkpianlmpknaaRefM0
namespace Go.Proofs.Ytfkkpianlmpknaa
open Go.ChangeShapes Go.WideShapes Go.ChangeAt Go.RowKit Go.Shelf
set_option linter.unusedVariables false
set_option linter.unusedSimpArgs false
attribute [local go_sem] Oper.semAt_some

set_option maxRecDepth 100000 in
set_option maxHeartbeats 4000000 in
theorem rmark_run (ks ke kr : Int) (kn : Bool) (kf km ko kl : Int) (now wait : Int) (A : Option Addr) (cap : Nat) (ts : List Rc) (w : World) (hT : RecsAt w A ts) (hA : A = none → cap = 0) (hb : ts.length * 80 ≤ 140737488355328) (k : okK ⟨ks, ke, kr, kn, kf, km, ko, kl⟩ = true) (q1 : tmB now = true) (q2 : tmB wait = true) :
    Calls Try.prog 26 #[.agg #[.int .i64 ks, .int .i64 ke, .int .i64 kr, .bool kn, .int .i64 kf, .int .i64 km, .int .i64 ko, .int .i64 kl], .slice A ts.length cap, .int .i64 now, .int .i64 wait] w fun e w' => ((recsB now ts = true ∧ ∃ va vc, e = .returned (.tuple #[.slice va ts.length vc, .int .i64 (leftI ⟨ks, ke, kr, kn, kf, km, ko, kl⟩ now wait ts.reverse), .int .i64 0]) ∧ RowR w' w.heap.size va ts.length vc (ts.map (markX ⟨ks, ke, kr, kn, kf, km, ko, kl⟩ now wait))) ∨ (recsB now ts = false ∧ e = .returned (.tuple #[.slice none 0 0, .int .i64 0, .int .i64 2]))) ∧ Below w.heap.size w w' := by
  have HT : Hid (RecsAt w A ts) := hT
  have HA : Hid ((A = none → cap = 0) ∧ ts.length * 80 ≤ 140737488355328) := ⟨hA, hb⟩
  have hml : ts.length ≤ 9223372036854775807 := hT.1
  have hnn := ok_nums k
  simp only at hnn
  have ht1 := tm_out q1
  have ht2 := tm_out q2
  have c2 := refTime_is now true q1
  have c3 := refTime_is wait true q2
  have c1 : ∀ W, Calls Try.prog 12 #[.agg #[.int .i64 ks, .int .i64 ke, .int .i64 kr, .bool kn, .int .i64 kf, .int .i64 km, .int .i64 ko, .int .i64 kl]] W fun e w' => e = .returned (.int .i64 0) ∧ Below W.heap.size W w' := fun W => refChk_yes ks ke kr kn kf km ko kl k W
  have hkr : 0 ≤ kr ∧ kr ≤ 2251799813685248 := hnn.2.2.1
  have HX : Hid (BoxK (w.alloc (.cells #[.int .i64 ks, .int .i64 ke, .int .i64 kr, .bool kn, .int .i64 kf, .int .i64 km, .int .i64 ko, .int .i64 kl] 23)) w.heap.size (.int .i64 ks) (.int .i64 ke) (.int .i64 kr) (.bool kn) (.int .i64 kf) (.int .i64 km) (.int .i64 ko) (.int .i64 kl) ∧ Below w.heap.size w (w.alloc (.cells #[.int .i64 ks, .int .i64 ke, .int .i64 kr, .bool kn, .int .i64 kf, .int .i64 km, .int .i64 ko, .int .i64 kl] 23))) := ⟨BoxK.new w _ _ _ _ _ _ _ _, below_more (Below.refl _ _) _⟩
  obtain ⟨n, hn⟩ : ∃ n, ts.length = n := ⟨_, rfl⟩
  have HN : Hid (ts.length = n) := hn
  rw [hn] at hml ⊢
  clear k q1 q2 hnn hT hA hb hn
  go_enter Try.func26, Try.ntmps26
  go_wp2_with fail
  refine (c1 _).mono ?_
  rintro e w1 ⟨rfl, hB1⟩
  have HX1 : Hid (BoxK w1 w.heap.size (.int .i64 ks) (.int .i64 ke) (.int .i64 kr) (.bool kn) (.int .i64 kf) (.int .i64 km) (.int .i64 ko) (.int .i64 kl) ∧ Below w.heap.size w w1) := ⟨HX.out.1.later hB1, Below.on HX.out.2 hB1⟩
  clear HX hB1 c1
  go_wp2_with fail
  refine (c2 _).mono ?_
  rintro e w' ⟨rfl, hw'⟩
  obtain rfl := hw'.symm
  clear hw'
  go_wp2_with fail
  refine (c3 _).mono ?_
  rintro e w' ⟨rfl, hw'⟩
  obtain rfl := hw'.symm
  clear hw'
  go_wp2_with fail
  go_loopw [11] (fun vi wr => ∃ (i : Nat), vi = .int .i64 i ∧ i ≤ n ∧ Hid ((BoxK wr w.heap.size (.int .i64 ks) (.int .i64 ke) (.int .i64 kr) (.bool kn) (.int .i64 kf) (.int .i64 km) (.int .i64 ko) (.int .i64 kl) ∧ Below w.heap.size w wr) ∧ ∀ j, j < i → recB (nth ts j) now = true))
    (fun vi _ => n - (intOf vi).toNat)
  case atStart => exact ⟨0, rfl, Nat.zero_le _, HX1.out, fun j hj => by omega⟩
  case round =>
    obtain ⟨i, rfl, hin, HI⟩ := hrel
    by_cases hlt : i < n
    · have hi' : i < ts.length := by have := HN.out; omega
      obtain ⟨b, o, rfl, hc0⟩ := HT.out.2 i hi'
      obtain ⟨x, hx⟩ : ∃ x, nth ts i = x := ⟨_, rfl⟩
      rw [hx] at hc0
      have HX0 : Hid (nth ts i = x) := hx
      obtain ⟨x0, x1, x2, x3, x4, x5, x6, x7, x8, x9, x10, x11⟩ := (hc0.below HI.out.1.2 hc0.lt).out
      have hlt' : (i : Int) < (n : Int) := by omega
      clear hx hc0
      cases hr : recB x now with
      | false =>
        have c4 := rec_is x now false hr
        have HN2 : Hid (recsB now ts = false) := recs_no hi' (by rw [HX0.out]; exact hr)
        clear hr
        go_wp2_with fail
        refine (c4 _).mono ?_
        rintro e w2 ⟨rfl, hB2⟩
        have HB2 : Hid (Below w.heap.size w w2) := Below.on HI.out.1.2 hB2
        clear hB2 x0 x1 x2 x3 x4 x5 x6 x7 x8 x9 x10 x11 c4
        go_wp2_with fail
        refine bodyPost_ret (by simp [results, Try.f26, go_sem]; rfl) rfl ?_
        exact ⟨.inr ⟨HN2.out, rfl⟩, HB2.out⟩
      | true =>
        have c4 := rec_is x now true hr
        have HI2 : Hid (∀ j, j < i + 1 → recB (nth ts j) now = true) := fun j hj => by
          by_cases e : j = i
          · subst e; rw [HX0.out]; exact hr
          · exact HI.out.2 j (by omega)
        clear hr
        go_wp2_with fail
        refine (c4 _).mono ?_
        rintro e w2 ⟨rfl, hB2⟩
        have HB2 : Hid (BoxK w2 w.heap.size (.int .i64 ks) (.int .i64 ke) (.int .i64 kr) (.bool kn) (.int .i64 kf) (.int .i64 km) (.int .i64 ko) (.int .i64 kl) ∧ Below w.heap.size w w2) := ⟨HI.out.1.1.later hB2, Below.on HI.out.1.2 hB2⟩
        clear hB2 x0 x1 x2 x3 x4 x5 x6 x7 x8 x9 x10 x11 c4
        go_wp2_with fail
        go_roundw
        case rel => exact ⟨i + 1, by go_num, by omega, HB2.out, HI2.out⟩
        case measure => simp [intOf]; omega
    · obtain rfl : i = n := by omega
      have HRB : Hid (recsB now ts = true) := recs_all (fun j hj => HI.out.2 j (by have := HN.out; omega))
      obtain ⟨va', vc', w2, hr, hR, hg⟩ := app_row (wr.alloc (.cells #[] 25)) wr.heap.size (some ⟨wr.heap.size, 0, none⟩) 0 0 [] (owns_empty wr _ (Nat.le_refl _)) (by simp) A cap ts ((HT.out.later HI.out.1.2).alloc _) HA.out.1 (by have := HA.out.2; omega)
      have hB2 : Below wr.heap.size wr w2 := below_append (below_new wr _) (by simp) (owns_empty wr _ (Nat.le_refl _)) hg
      have HR : Hid (RowR w2 wr.heap.size va' i vc' ts ∧ BoxK w2 w.heap.size (.int .i64 ks) (.int .i64 ke) (.int .i64 kr) (.bool kn) (.int .i64 kf) (.int .i64 km) (.int .i64 ko) (.int .i64 kl) ∧ Below w.heap.size w w2 ∧ w.heap.size < wr.heap.size) := ⟨by simpa [HN.out] using hR, HI.out.1.1.later hB2, Below.on HI.out.1.2 hB2, HI.out.1.1.lt⟩
      have HRN : Hid ((Builtin.append_ #[46, 46] 46 #[.slice (some ⟨wr.heap.size, 0, none⟩) 0 0, .slice A i cap]).run Try.prog (wr.alloc (.cells #[] 25)) = .ok (.slice va' i vc') w2) := by
        unfold Hid; rw [← HN.out, hr, Nat.zero_add]
      clear hr hR hg hB2 HI
      go_wp2_with (at_builtin; refine Lib.wpList_append_run (wr.alloc (.cells #[] 25)) rfl (.tmp 40) (.tmp 41) 46 46 rfl (.slice (some ⟨wr.heap.size, 0, none⟩) 0 0) (.slice A i cap) rfl rfl (.slice va' i vc') w2 HRN.out ?_)
      clear HRN
      obtain ⟨u0, hu0⟩ : ∃ u0, wr.heap.size = u0 := ⟨_, rfl⟩
      rw [hu0] at HR
      clear hu0
      go_loopw [13, 14] (fun vl vi wx => ∃ (j : Nat) (lf : Int), vl = .int .i64 lf ∧ vi = .int .i64 j ∧ j ≤ i ∧ Hid (RowR wx u0 va' i vc' (markUp ⟨ks, ke, kr, kn, kf, km, ko, kl⟩ now wait ts j) ∧ leftUp ⟨ks, ke, kr, kn, kf, km, ko, kl⟩ now wait ts j = lf ∧ BoxK wx w.heap.size (.int .i64 ks) (.int .i64 ke) (.int .i64 kr) (.bool kn) (.int .i64 kf) (.int .i64 km) (.int .i64 ko) (.int .i64 kl) ∧ Below w.heap.size w wx ∧ w.heap.size < u0))
        (fun _ vi _ => i - (intOf vi).toNat)
      case atStart => exact ⟨0, 0, rfl, rfl, Nat.zero_le _, by simpa [markUp] using HR.out.1, rfl, HR.out.2⟩
      case round =>
        obtain ⟨j, lf, rfl, rfl, hj, HJ⟩ := hrel
        by_cases hlt : j < i
        · have hj' : j < ts.length := by have := HN.out; omega
          obtain ⟨g, rfl, hg1, hg2⟩ := row_some HJ.out.1 (by omega)
          have hrc := row_cells HJ.out.1 j hlt
          rw [markUp_at hj'] at hrc
          have hro := rec_out (recs_at HRB.out hj')
          obtain ⟨x, hx⟩ : ∃ x, nth ts j = x := ⟨_, rfl⟩
          have HX0 : Hid (nth ts j = x) := hx
          rw [hx] at hrc hro
          obtain ⟨xf, xt, xn, xs, xx, b201, b202, b203, xg, xh, xj, xi⟩ := x
          have hcs : wr.cell? ⟨g, j * 12, none⟩ = some (.int .i64 xf) ∧ wr.cell? ⟨g, j * 12 + 1, none⟩ = some (.int .i64 xt) ∧ wr.cell? ⟨g, j * 12 + 2, none⟩ = some (.bool xn) ∧ wr.cell? ⟨g, j * 12 + 3, none⟩ = some (.int .i64 xs) ∧ wr.cell? ⟨g, j * 12 + 4, none⟩ = some (.int .i64 xx) ∧ wr.cell? ⟨g, j * 12 + 5, none⟩ = some (.bool b201) ∧ wr.cell? ⟨g, j * 12 + 6, none⟩ = some (.bool b202) ∧ wr.cell? ⟨g, j * 12 + 7, none⟩ = some (.bool b203) ∧ wr.cell? ⟨g, j * 12 + 8, none⟩ = some (.int .i64 xg) ∧ wr.cell? ⟨g, j * 12 + 9, none⟩ = some (.int .i64 xh) ∧ wr.cell? ⟨g, j * 12 + 10, none⟩ = some (.int .i64 xj) ∧ wr.cell? ⟨g, j * 12 + 11, none⟩ = some (.bool xi) := hrc.out
          have hw0 : 0 ≤ xs ∧ xs ≤ now ∧ now ≤ 1125899906842624 := ⟨hro.2.2.1, hro.2.2.2.1, ht1.2⟩
          have hlt' : (j : Int) < (i : Int) := by omega
          obtain ⟨b101, hb101⟩ : ∃ b101, ahB ⟨ks, ke, kr, kn, kf, km, ko, kl⟩ ⟨xf, xt, xn, xs, xx, b201, b202, b203, xg, xh, xj, xi⟩ = b101 := ⟨_, rfl⟩
          obtain ⟨d17, hd17⟩ : ∃ d17, (!b203) = d17 := ⟨_, rfl⟩
          obtain ⟨d18, hd18⟩ : ∃ d18, (b202 && d17) = d18 := ⟨_, rfl⟩
          obtain ⟨d19, hd19⟩ : ∃ d19, (b201 || d18) = d19 := ⟨_, rfl⟩
          obtain ⟨d27, hd27⟩ : ∃ d27, (!b101) = d27 := ⟨_, rfl⟩
          obtain ⟨d28, hd28⟩ : ∃ d28, (d19 || d27) = d28 := ⟨_, rfl⟩
          have HD : Hid ((onB ⟨xf, xt, xn, xs, xx, b201, b202, b203, xg, xh, xj, xi⟩ && ahB ⟨ks, ke, kr, kn, kf, km, ko, kl⟩ ⟨xf, xt, xn, xs, xx, b201, b202, b203, xg, xh, xj, xi⟩) = !d28) := by
            unfold Hid
            rw [hb101, ← hd28, ← hd27, ← hd19, ← hd18, ← hd17]
            simp only [onB]
            cases b201 <;> cases b202 <;> cases b203 <;> cases b101 <;> rfl
          clear hx hrc hro
          go_upto_region 15 with fail
          refine rm15_reg rfl w.heap.size g j i vc' ks ke kr kn kf km ko kl xf xt xn xs xx xg xh xj xi rfl rfl rfl hb101 hlt' ⟨HJ.out.2.2.1, hcs, ⟨rfl, rfl, rfl, Nat.le_refl _, fun _ _ => rfl⟩⟩ hd17 hd18 hd19 hd27 hd28 ?_
          intro T2 W2 hT2 hS2
          have HJ2 : Hid (RowR W2 u0 (some ⟨g, 0, none⟩) i vc' (markUp ⟨ks, ke, kr, kn, kf, km, ko, kl⟩ now wait ts j) ∧ leftUp ⟨ks, ke, kr, kn, kf, km, ko, kl⟩ now wait ts j = lf ∧ BoxK W2 w.heap.size (.int .i64 ks) (.int .i64 ke) (.int .i64 kr) (.bool kn) (.int .i64 kf) (.int .i64 km) (.int .i64 ko) (.int .i64 kl) ∧ Below w.heap.size w W2 ∧ w.heap.size < u0) := ⟨HJ.out.1.later hS2.2.2, HJ.out.2.1, hS2.1, Below.on HJ.out.2.2.2.1 hS2.2.2, HJ.out.2.2.2.2⟩
          have hcs2 : W2.cell? ⟨g, j * 12, none⟩ = some (.int .i64 xf) ∧ W2.cell? ⟨g, j * 12 + 1, none⟩ = some (.int .i64 xt) ∧ W2.cell? ⟨g, j * 12 + 2, none⟩ = some (.bool xn) ∧ W2.cell? ⟨g, j * 12 + 3, none⟩ = some (.int .i64 xs) ∧ W2.cell? ⟨g, j * 12 + 4, none⟩ = some (.int .i64 xx) ∧ W2.cell? ⟨g, j * 12 + 5, none⟩ = some (.bool b201) ∧ W2.cell? ⟨g, j * 12 + 6, none⟩ = some (.bool b202) ∧ W2.cell? ⟨g, j * 12 + 7, none⟩ = some (.bool b203) ∧ W2.cell? ⟨g, j * 12 + 8, none⟩ = some (.int .i64 xg) ∧ W2.cell? ⟨g, j * 12 + 9, none⟩ = some (.int .i64 xh) ∧ W2.cell? ⟨g, j * 12 + 10, none⟩ = some (.int .i64 xj) ∧ W2.cell? ⟨g, j * 12 + 11, none⟩ = some (.bool xi) := hS2.2.1
          clear hS2 hb101 hd17 hd18 hd19 hd27 hd28 HJ hcs
          simp only [Act.put, List.setIfInBounds_toArray, List.set_cons_zero, List.set_cons_succ]
          rw [hT2]
          clear hT2
          cases d28 with
          | true =>
            have HOFF := mark_off (k := ⟨ks, ke, kr, kn, kf, km, ko, kl⟩) (now := now) (wait := wait) (x := ⟨xf, xt, xn, xs, xx, b201, b202, b203, xg, xh, xj, xi⟩) HD.out
            have HE : Hid (markUp ⟨ks, ke, kr, kn, kf, km, ko, kl⟩ now wait ts (j + 1) = markUp ⟨ks, ke, kr, kn, kf, km, ko, kl⟩ now wait ts j ∧ leftUp ⟨ks, ke, kr, kn, kf, km, ko, kl⟩ now wait ts (j + 1) = lf) := by
              have h1 := leftUp_nonneg ⟨ks, ke, kr, kn, kf, km, ko, kl⟩ now wait ts j
              have h2 := HJ2.out.2.1
              refine ⟨markUp_stay hj' (by rw [HX0.out]; exact HOFF.1), ?_⟩
              rw [leftUp_next hj', HX0.out, HOFF.2]; omega
            clear HOFF hcs2
            go_wp2_with fail
            go_roundw
            case rel => exact ⟨j + 1, lf, rfl, by go_num, by omega, by rw [HE.out.1]; exact HJ2.out.1, HE.out.2, HJ2.out.2.2⟩
            case measure => simp [intOf]; omega
          | false =>
            have hon : (onB ⟨xf, xt, xn, xs, xx, b201, b202, b203, xg, xh, xj, xi⟩ && ahB ⟨ks, ke, kr, kn, kf, km, ko, kl⟩ ⟨xf, xt, xn, xs, xx, b201, b202, b203, xg, xh, xj, xi⟩) = true := HD.out
            obtain ⟨k0, k1, k2, k3, k4, k5, k6, k7⟩ := HJ2.out.2.2.1.cells
            obtain ⟨x0, x1, x2, x3, x4, x5, x6, x7, x8, x9, x10, x11⟩ := hcs2
            have hlk := HJ2.out.2.2.1.lt
            go_upto_region 16 with fail
            go_quiet (fail)
            obtain ⟨V, hV⟩ : ∃ V, W2.drewN nq = V := ⟨_, rfl⟩
            have HJ3 : Hid (RowR V u0 (some ⟨g, 0, none⟩) i vc' (markUp ⟨ks, ke, kr, kn, kf, km, ko, kl⟩ now wait ts j) ∧ leftUp ⟨ks, ke, kr, kn, kf, km, ko, kl⟩ now wait ts j = lf ∧ BoxK V w.heap.size (.int .i64 ks) (.int .i64 ke) (.int .i64 kr) (.bool kn) (.int .i64 kf) (.int .i64 km) (.int .i64 ko) (.int .i64 kl) ∧ Below w.heap.size w V ∧ w.heap.size < u0) := by
              have hb := below_drewN (Below.refl W2.heap.size W2) nq
              rw [← hV]
              exact ⟨HJ2.out.1.later hb, HJ2.out.2.1, HJ2.out.2.2.1.later hb, Below.on HJ2.out.2.2.2.1 hb, HJ2.out.2.2.2.2⟩
            rw [hV]
            clear hV k0 k1 k2 k3 k4 k5 k6 k7 x0 x1 x2 x3 x4 x5 x6 x7 x8 x9 x10 x11 hlk
            by_cases hs : sumI ⟨ks, ke, kr, kn, kf, km, ko, kl⟩ wait ⟨xf, xt, xn, xs, xx, b201, b202, b203, xg, xh, xj, xi⟩ ≤ now
            · have HON := mark_on hon hs
              have hs' : xs + kr + wait ≤ now := hs
              have d1 : decide (xs + kr + wait ≤ now) = true := by simp; omega
              have HE2 : Hid (leftUp ⟨ks, ke, kr, kn, kf, km, ko, kl⟩ now wait ts (j + 1) = lf) := by
                have h1 := leftUp_nonneg ⟨ks, ke, kr, kn, kf, km, ko, kl⟩ now wait ts j
                have h2 := HJ3.out.2.1
                unfold Hid; rw [leftUp_next hj', HX0.out, HON.2]; omega
              have hrow := HJ3.out.1
              have r1 := row_set hrow j 6 hlt (by omega) (.bool true) ⟨xf, xt, xn, xs, xx, b201, true, b203, xg, xh, xj, xi⟩ (by rw [markUp_at hj', HX0.out]; rfl)
              have r2 := row_set r1 j 7 hlt (by omega) (.bool false) ⟨xf, xt, xn, xs, xx, b201, true, false, xg, xh, xj, xi⟩ (by rw [nth_set_self (by rw [markUp_len]; exact hj')]; rfl)
              have c6 := (row_cells hrow j hlt).out.2.2.2.2.2.2.1
              have c7 := (row_cells r1 j hlt).out.2.2.2.2.2.2.2.1
              have fz6 := row_frozen hrow (j * 12 + 6)
              have fz7 := row_frozen r1 (j * 12 + 7)
              have HF : Hid (RowR ((V.setCell ⟨g, j * 12 + 6, none⟩ (.bool true)).setCell ⟨g, j * 12 + 7, none⟩ (.bool false)) u0 (some ⟨g, 0, none⟩) i vc' (markUp ⟨ks, ke, kr, kn, kf, km, ko, kl⟩ now wait ts (j + 1)) ∧ BoxK ((V.setCell ⟨g, j * 12 + 6, none⟩ (.bool true)).setCell ⟨g, j * 12 + 7, none⟩ (.bool false)) w.heap.size (.int .i64 ks) (.int .i64 ke) (.int .i64 kr) (.bool kn) (.int .i64 kf) (.int .i64 km) (.int .i64 ko) (.int .i64 kl) ∧ Below w.heap.size w ((V.setCell ⟨g, j * 12 + 6, none⟩ (.bool true)).setCell ⟨g, j * 12 + 7, none⟩ (.bool false)) ∧ w.heap.size < u0) := by
                have hlw := HJ3.out.2.2.2.2
                refine ⟨?_, (HJ3.out.2.2.1.aside _ _ _ (by omega)).aside _ _ _ (by omega), below_set (below_set HJ3.out.2.2.2.1 _ _ _ (by omega)) _ _ _ (by omega), hlw⟩
                rw [markUp_next hj', HX0.out, HON.1]
                rw [List.set_set] at r2
                exact r2
              clear r2 hrow r1 HON hon hs hs'
              go_wp2_with fail
              go_roundw
              case rel => exact ⟨j + 1, lf, rfl, by go_num, by omega, HF.out.1, HE2.out, HF.out.2⟩
              case measure => simp [intOf]; omega
            · have HON := mark_more hon hs
              have hs' : ¬ xs + kr + wait ≤ now := hs
              have d1 : decide (xs + kr + wait ≤ now) = false := by simp; omega
              obtain ⟨mx, hmx⟩ : ∃ mx, max lf (xs + kr + wait - now) = mx := ⟨_, rfl⟩
              have hmm := @max2 lf (xs + kr + wait - now) mx hmx
              have HE : Hid (markUp ⟨ks, ke, kr, kn, kf, km, ko, kl⟩ now wait ts (j + 1) = markUp ⟨ks, ke, kr, kn, kf, km, ko, kl⟩ now wait ts j ∧ leftUp ⟨ks, ke, kr, kn, kf, km, ko, kl⟩ now wait ts (j + 1) = mx) := by
                refine ⟨markUp_stay hj' (by rw [HX0.out]; exact HON.1), ?_⟩
                rw [leftUp_next hj', HX0.out, HON.2, HJ3.out.2.1]; exact hmx
              clear HON hon hs hs' hmx
              go_wp2_with fail
              go_roundw
              case rel => exact ⟨j + 1, mx, rfl, by go_num, by omega, by rw [HE.out.1]; exact HJ3.out.1, HE.out.2, HJ3.out.2.2⟩
              case measure => simp [intOf]; omega
        · obtain rfl : j = i := by omega
          have HFIN : Hid (RowR wr w.heap.size va' j vc' (ts.map (markX ⟨ks, ke, kr, kn, kf, km, ko, kl⟩ now wait)) ∧ leftI ⟨ks, ke, kr, kn, kf, km, ko, kl⟩ now wait ts.reverse = lf ∧ Below w.heap.size w wr) := by
            obtain ⟨h1, h2, h3, h4, h5⟩ := HJ.out
            rw [show markUp ⟨ks, ke, kr, kn, kf, km, ko, kl⟩ now wait ts j = ts.map (markX ⟨ks, ke, kr, kn, kf, km, ko, kl⟩ now wait) from by rw [← HN.out]; exact markUp_all _ _ _ _] at h1
            rw [show leftUp ⟨ks, ke, kr, kn, kf, km, ko, kl⟩ now wait ts j = leftI ⟨ks, ke, kr, kn, kf, km, ko, kl⟩ now wait ts.reverse from by rw [← HN.out]; exact leftUp_all _ _ _ _] at h2
            exact ⟨h1.mono (by omega), h2, h4⟩
          clear HJ
          go_wp2_with fail
          refine bodyPost_ret (by simp [results, Try.f26, go_sem]; rfl) rfl ?_
          exact ⟨.inl ⟨HRB.out, va', vc', by rw [HFIN.out.2.1], HFIN.out.1⟩, HFIN.out.2.2⟩
end Go.Proofs.Ytfkkpianlmpknaa
