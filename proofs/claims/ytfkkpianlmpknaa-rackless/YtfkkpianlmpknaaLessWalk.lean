/- The walk of RackLess. -/
import Derived.Test.YtfkkpianlmpknaaLess0
import Derived.Test.YtfkkpianlmpknaaSame
namespace Go.Proofs.Ytfkkpianlmpknaa
open Go.ChangeShapes Go.WideShapes Go.ChangeAt Go.RowKit Go.Shelf
set_option linter.unusedVariables false
set_option linter.unusedSimpArgs false
attribute [local go_sem] Oper.semAt_some

set_option maxRecDepth 100000 in
set_option maxHeartbeats 4000000 in
theorem less_main (ks ke kr : Int) (kn : Bool) (kf km ko kl : Int) (A : Option Addr) (cap : Nat) (ts : List Rc) (now wait more : Int) (w : World) (hT : RecsAt w A ts) (hA : A = none → cap = 0) (hr : ts.length * 80 ≤ 140737488351232) (h0 : 0 ≤ more) (h1 : more ≤ 1099511627776) (h2 : 0 ≤ wait) (h3 : wait ≤ 1099511627776) (h4 : 0 ≤ now) (h5 : now ≤ 1099511627776) : Calls Try.prog 7 #[.agg #[.int .i64 ks, .int .i64 ke, .int .i64 kr, .bool kn, .int .i64 kf, .int .i64 km, .int .i64 ko, .int .i64 kl], .slice A ts.length cap, .int .i64 now, .int .i64 wait, .int .i64 more] w fun e w' => e = .returned (.bool true) ∧ Below w.heap.size w w' := by
  obtain ⟨L, hL⟩ : ∃ L, mrkL ⟨ks, ke, kr, kn, kf, km, ko, kl⟩ ts now wait = L := ⟨_, rfl⟩
  obtain ⟨li, hli⟩ : ∃ a, mrkI ⟨ks, ke, kr, kn, kf, km, ko, kl⟩ ts now wait = a := ⟨_, rfl⟩
  obtain ⟨er, her⟩ : ∃ a, mrkE ⟨ks, ke, kr, kn, kf, km, ko, kl⟩ ts now wait = a := ⟨_, rfl⟩
  obtain ⟨L2, hL2⟩ : ∃ L, mrkL ⟨ks, ke, kr, kn, kf, km, ko, kl⟩ ts now (wait + more) = L := ⟨_, rfl⟩
  obtain ⟨l2, hl2⟩ : ∃ a, mrkI ⟨ks, ke, kr, kn, kf, km, ko, kl⟩ ts now (wait + more) = a := ⟨_, rfl⟩
  have htw : tmB wait = true := by unfold tmB; apply decide_eq_true; omega
  have htw2 : tmB (wait + more) = true := by unfold tmB; apply decide_eq_true; omega
  have htn : tmB now = true := by unfold tmB; apply decide_eq_true; omega
  have her2 : mrkE ⟨ks, ke, kr, kn, kf, km, ko, kl⟩ ts now (wait + more) = er := by rw [mrk_same htw htw2]; exact her
  obtain ⟨n, hn⟩ : ∃ n, ts.length = n := ⟨_, rfl⟩
  have hml : n ≤ 9223372036854775807 := by rw [← hn]; exact hT.1
  have hnb : n * 80 ≤ 140737488351232 := by rw [← hn]; exact hr
  have HT : Hid (RecsAt w A ts) := hT
  have q7 := heads_any
  have q2 : ∀ W, RecsAt W A ts → Calls Try.prog 25 #[.agg #[.int .i64 ks, .int .i64 ke, .int .i64 kr, .bool kn, .int .i64 kf, .int .i64 km, .int .i64 ko, .int .i64 kl], .slice A n cap, .int .i64 now, .int .i64 wait] W fun e w' => ∃ va vc, e = .returned (.tuple #[.slice va L.length vc, .int .i64 li, .int .i64 er]) ∧ RowR w' W.heap.size va L.length vc L ∧ Below W.heap.size W w' := fun W h => by
    rw [← hn]; exact mark_is ks ke kr kn kf km ko kl now wait A cap ts W h hA (by omega) L hL li hli er her
  have q3 : ∀ W, RecsAt W A ts → Calls Try.prog 25 #[.agg #[.int .i64 ks, .int .i64 ke, .int .i64 kr, .bool kn, .int .i64 kf, .int .i64 km, .int .i64 ko, .int .i64 kl], .slice A n cap, .int .i64 now, .int .i64 (wait + more)] W fun e w' => ∃ va vc, e = .returned (.tuple #[.slice va L2.length vc, .int .i64 l2, .int .i64 er]) ∧ RowR w' W.heap.size va L2.length vc L2 ∧ Below W.heap.size W w' := fun W h => by
    rw [← hn]; exact mark_is ks ke kr kn kf km ko kl now (wait + more) A cap ts W h hA (by omega) L2 hL2 l2 hl2 er her2
  have d0 : decide (more < 0) = false := by first | (simp; done) | (simp; omega)
  have d1 : decide (1099511627776 < more) = false := by first | (simp; done) | (simp; omega)
  have d2 : decide (wait < 0) = false := by first | (simp; done) | (simp; omega)
  have d3 : decide (1099511627776 < wait) = false := by first | (simp; done) | (simp; omega)
  have d4 : decide (now < 0) = false := by first | (simp; done) | (simp; omega)
  have d5 : decide (1099511627776 < now) = false := by first | (simp; done) | (simp; omega)
  have HX0 : Hid (BoxK (w.alloc (.cells #[.int .i64 ks, .int .i64 ke, .int .i64 kr, .bool kn, .int .i64 kf, .int .i64 km, .int .i64 ko, .int .i64 kl] 23)) w.heap.size (.int .i64 ks) (.int .i64 ke) (.int .i64 kr) (.bool kn) (.int .i64 kf) (.int .i64 km) (.int .i64 ko) (.int .i64 kl) ∧ Below w.heap.size w (w.alloc (.cells #[.int .i64 ks, .int .i64 ke, .int .i64 kr, .bool kn, .int .i64 kf, .int .i64 km, .int .i64 ko, .int .i64 kl] 23))) := ⟨BoxK.new w _ _ _ _ _ _ _ _, below_more (Below.refl _ _) _⟩
  have hwb : 0 ≤ wait ∧ wait ≤ 1099511627776 ∧ 0 ≤ more ∧ more ≤ 1099511627776 ∧ 0 ≤ now ∧ now ≤ 1099511627776 := ⟨h2, h3, h0, h1, h4, h5⟩
  by_cases hE : er = 0
  · subst hE
    obtain ⟨hok, _, _, hrs, hLm, hIm⟩ := mrk_yes her
    obtain ⟨_, _, _, _, hLm2, _⟩ := mrk_yes her2
    have hLn : L.length = n := by rw [← hL, hLm]; simpa using hn
    have hLn2 : L2.length = n := by rw [← hL2, hLm2]; simpa using hn
    rw [hLn] at q2
    rw [hLn2] at q3
    have hlf : leftI ⟨ks, ke, kr, kn, kf, km, ko, kl⟩ now wait ts.reverse = li := by rw [← hIm]; exact hli
    have hl0 : 0 ≤ li := by rw [← hlf]; exact left_nonneg _ _ _ _
    have hrsL : recsB now L = true := by rw [← hL, hLm, recs_mark]; exact hrs
    have e4 := mrk_mk (l := L) hok htn htw hrsL
    have e4L : mrkL ⟨ks, ke, kr, kn, kf, km, ko, kl⟩ L now wait = L := by rw [e4.1, ← hL, hLm]; exact map_idem _ _ _ _
    have e4I : mrkI ⟨ks, ke, kr, kn, kf, km, ko, kl⟩ L now wait = li := by rw [e4.2.1, ← hL, hLm, ← List.map_reverse, left_map]; exact hlf
    have q4 : ∀ W B va vc, RowR W B va n vc L → Calls Try.prog 25 #[.agg #[.int .i64 ks, .int .i64 ke, .int .i64 kr, .bool kn, .int .i64 kf, .int .i64 km, .int .i64 ko, .int .i64 kl], .slice va n vc, .int .i64 now, .int .i64 wait] W fun e w' => ∃ va vc, e = .returned (.tuple #[.slice va n vc, .int .i64 li, .int .i64 0]) ∧ RowR w' W.heap.size va n vc L ∧ Below W.heap.size W w' := fun W B va vc h => by
      rw [← hLn]; rw [← hLn] at h
      exact mark_is ks ke kr kn kf km ko kl now wait va vc L W h.recs h.none0 (by omega) L e4L li e4I 0 e4.2.2
    have HL : Hid (L = ts.map (markX ⟨ks, ke, kr, kn, kf, km, ko, kl⟩ now wait) ∧ L2 = ts.map (markX ⟨ks, ke, kr, kn, kf, km, ko, kl⟩ now (wait + more)) ∧ ts.length = n ∧ L.length = n) := ⟨by rw [← hL]; exact hLm, by rw [← hL2]; exact hLm2, hn, hLn⟩
    have q5 : li ≤ 562949953421312 → ∀ W B va vc, RowR W B va n vc L → Calls Try.prog 25 #[.agg #[.int .i64 ks, .int .i64 ke, .int .i64 kr, .bool kn, .int .i64 kf, .int .i64 km, .int .i64 ko, .int .i64 kl], .slice va n vc, .int .i64 (now + li), .int .i64 wait] W fun e w' => (∃ va vc, e = .returned (.tuple #[.slice va n vc, .int .i64 0, .int .i64 0])) ∧ Below W.heap.size W w' := fun hl W B va vc h => by
      have htl : tmB (now + li) = true := by unfold tmB; apply decide_eq_true; omega
      have e5 := mrk_mk (l := L) hok htl htw (recs_later (by omega) hrsL)
      have e5I : mrkI ⟨ks, ke, kr, kn, kf, km, ko, kl⟩ L (now + li) wait = 0 := by
        rw [e5.2.1]
        refine left_none hl0 _ (fun x hx => ?_)
        rw [← e4I, e4.2.1]
        exact left_ge _ _ _ _ x hx
      rw [← hLn]; rw [← hLn] at h
      refine (mark_is ks ke kr kn kf km ko kl (now + li) wait va vc L W h.recs h.none0 (by omega) _ e5.1 0 e5I 0 e5.2.2).mono ?_
      rintro e w' ⟨va, vc, rfl, _, hB⟩
      exact ⟨⟨va, vc, by simp⟩, hB⟩
    rw [hn]
    clear hL hli her hL2 hl2 her2 hn hT hr h0 h1 h2 h3 h4 h5 hok hrs hLm hIm hLm2 hLn hLn2 hlf hrsL e4 e4L e4I htw htw2 htn
    go_enter Try.func7, Try.ntmps7
    go_upto_region 3 with fail
    obtain ⟨V0, hV0⟩ : ∃ V0, (w.alloc (.cells #[.int .i64 ks, .int .i64 ke, .int .i64 kr, .bool kn, .int .i64 kf, .int .i64 km, .int .i64 ko, .int .i64 kl] 23)) = V0 := ⟨_, rfl⟩
    rw [hV0] at HX0
    try rw [hV0]
    clear hV0
    obtain ⟨k0, k1, k2, k3, k4, k5, k6, k7⟩ := HX0.out.1.cells
    go_wp2_with fail
    refine (q2 _ (HT.out.later HX0.out.2)).mono ?_
    rintro e w1 ⟨va1, vc1, rfl, hR1, hB1⟩
    have HX1 : Hid (BoxK w1 w.heap.size (.int .i64 ks) (.int .i64 ke) (.int .i64 kr) (.bool kn) (.int .i64 kf) (.int .i64 km) (.int .i64 ko) (.int .i64 kl) ∧ RowR w1 0 va1 n vc1 L ∧ Below w.heap.size w w1) := ⟨HX0.out.1.later hB1, hR1.mono (Nat.zero_le _), Below.on HX0.out.2 hB1⟩
    clear HX0 hB1 hR1 q2 k0 k1 k2 k3 k4 k5 k6 k7
    obtain ⟨k0, k1, k2, k3, k4, k5, k6, k7⟩ := HX1.out.1.cells
    go_wp2_with fail
    refine (q3 _ (HT.out.later HX1.out.2.2)).mono ?_
    rintro e w2 ⟨va2, vc2, rfl, hR2, hB2⟩
    have HX2 : Hid (BoxK w2 w.heap.size (.int .i64 ks) (.int .i64 ke) (.int .i64 kr) (.bool kn) (.int .i64 kf) (.int .i64 km) (.int .i64 ko) (.int .i64 kl) ∧ RowR w2 0 va1 n vc1 L ∧ RowR w2 0 va2 n vc2 L2 ∧ Below w.heap.size w w2) := ⟨HX1.out.1.later hB2, HX1.out.2.1.later hB2, hR2.mono (Nat.zero_le _), Below.on HX1.out.2.2 hB2⟩
    clear HX1 hB2 hR2 q3 k0 k1 k2 k3 k4 k5 k6 k7
    go_wp2_with fail
    go_loopw [17] (fun vi wr => ∃ (i : Nat), vi = .int .i64 i ∧ i ≤ n ∧ wr = w2)
      (fun vi _ => n - (intOf vi).toNat)
    case atStart => exact ⟨0, rfl, Nat.zero_le _, rfl⟩
    case round =>
      obtain ⟨i, rfl, hin, hwr⟩ := hrel
      obtain rfl := hwr.symm
      clear hwr
      by_cases hlt : i < n
      · have hi' : i < ts.length := by have := HL.out.2.2.1; omega
        obtain ⟨g1, rfl, hg1, hg2⟩ := row_some HX2.out.2.1 (by omega)
        obtain ⟨g2, rfl, hg3, hg4⟩ := row_some HX2.out.2.2.1 (by omega)
        have hc1 := row_cells HX2.out.2.1 i hlt
        have hc2 := row_cells HX2.out.2.2.1 i hlt
        rw [HL.out.1, nth_map hi'] at hc1
        rw [HL.out.2.1, nth_map hi'] at hc2
        have hls := less_lost (k := ⟨ks, ke, kr, kn, kf, km, ko, kl⟩) (now := now) (wait := wait) (w2 := wait + more) (by omega) (nth ts i)
        have m6 := hc1.out.2.2.2.2.2.2.1
        have m7 := hc1.out.2.2.2.2.2.2.2.1
        have n6 := hc2.out.2.2.2.2.2.2.1
        have n7 := hc2.out.2.2.2.2.2.2.2.1
        have hlt' : (i : Int) < (n : Int) := by omega
        obtain ⟨yl, hyl⟩ : ∃ b, (markX ⟨ks, ke, kr, kn, kf, km, ko, kl⟩ now (wait + more) (nth ts i)).lo = b := ⟨_, rfl⟩
        obtain ⟨ya, hya⟩ : ∃ b, (markX ⟨ks, ke, kr, kn, kf, km, ko, kl⟩ now (wait + more) (nth ts i)).ag = b := ⟨_, rfl⟩
        obtain ⟨zl, hzl⟩ : ∃ b, (markX ⟨ks, ke, kr, kn, kf, km, ko, kl⟩ now wait (nth ts i)).lo = b := ⟨_, rfl⟩
        obtain ⟨za, hza⟩ : ∃ b, (markX ⟨ks, ke, kr, kn, kf, km, ko, kl⟩ now wait (nth ts i)).ag = b := ⟨_, rfl⟩
        rw [hyl] at n6 hls
        rw [hya] at n7 hls
        rw [hzl] at m6 hls
        rw [hza] at m7 hls
        clear hyl hya hzl hza hc1 hc2
        cases yl
        · go_wp2_with fail
          go_roundw
          case rel => exact ⟨i + 1, by go_num, by omega, by trivial⟩
          case measure => simp [intOf]; omega
        · cases ya
          · obtain ⟨rfl, rfl⟩ := hls rfl rfl
            go_wp2_with fail
            go_roundw
            case rel => exact ⟨i + 1, by go_num, by omega, by trivial⟩
            case measure => simp [intOf]; omega
          · go_wp2_with fail
            go_roundw
            case rel => exact ⟨i + 1, by go_num, by omega, by trivial⟩
            case measure => simp [intOf]; omega
      · obtain rfl : i = n := by omega
        obtain ⟨k0, k1, k2, k3, k4, k5, k6, k7⟩ := HX2.out.1.cells
        go_wp2_with fail
        refine (q4 _ _ _ _ HX2.out.2.1).mono ?_
        rintro e w3 ⟨va3, vc3, rfl, hR3, hB3⟩
        have HX3 : Hid (BoxK w3 w.heap.size (.int .i64 ks) (.int .i64 ke) (.int .i64 kr) (.bool kn) (.int .i64 kf) (.int .i64 km) (.int .i64 ko) (.int .i64 kl) ∧ RowR w3 0 va1 i vc1 L ∧ RecsAt w3 va3 L ∧ Below w.heap.size w w3) := ⟨HX2.out.1.later hB3, HX2.out.2.1.later hB3, hR3.recs, Below.on HX2.out.2.2.2 hB3⟩
        clear HX2 hB3 hR3 q4 k0 k1 k2 k3 k4 k5 k6 k7
        have q6 := same_b va3 va1 vc3 vc1 L i HL.out.2.2.2 w3 HX3.out.2.2.1 HX3.out.2.1.recs
        by_cases hgt : 562949953421312 < li
        · have d9 : decide (562949953421312 < li) = true := by simpa using hgt
          clear q5 hgt
          go_wp2_with fail
          refine q6.mono ?_
          rintro e w4 ⟨rfl, hB4⟩
          go_wp2_with fail
          refine (q7 _).mono ?_
          rintro e w6 ⟨rfl, hB6⟩
          go_wp2_with fail
          go_ret
          exact ⟨rfl, Below.on (Below.on HX3.out.2.2.2 hB4) hB6⟩
        · have d9 : decide (562949953421312 < li) = false := by simpa using hgt
          have q5' := q5 (by omega)
          have hlb : li ≤ 562949953421312 := by omega
          clear q5 hgt
          go_wp2_with fail
          refine q6.mono ?_
          rintro e w4 ⟨rfl, hB4⟩
          have HX4 : Hid (BoxK w4 w.heap.size (.int .i64 ks) (.int .i64 ke) (.int .i64 kr) (.bool kn) (.int .i64 kf) (.int .i64 km) (.int .i64 ko) (.int .i64 kl) ∧ RowR w4 0 va1 i vc1 L ∧ Below w.heap.size w w4) := ⟨HX3.out.1.later hB4, HX3.out.2.1.later hB4, Below.on HX3.out.2.2.2 hB4⟩
          clear HX3 hB4 q6
          obtain ⟨k0, k1, k2, k3, k4, k5, k6, k7⟩ := HX4.out.1.cells
          go_wp2_with fail
          refine (q5' _ _ _ _ HX4.out.2.1).mono ?_
          rintro e w5 ⟨⟨va5, vc5, rfl⟩, hB5⟩
          have HX5 : Hid (Below w.heap.size w w5) := Below.on HX4.out.2.2 hB5
          clear HX4 hB5 q5' k0 k1 k2 k3 k4 k5 k6 k7
          go_wp2_with fail
          refine (q7 _).mono ?_
          rintro e w6 ⟨rfl, hB6⟩
          go_wp2_with fail
          go_ret
          exact ⟨rfl, Below.on HX5.out hB6⟩
  · have d7 : (er == 0) = false := by simpa using hE
    have d8 : decide (er = 0) = false := by simpa using hE
    have d9 : (er != 0) = true := by simpa using hE
    rw [hn]
    clear hL hli her hL2 hl2 her2 hn hT hr h0 h1 h2 h3 h4 h5 hE htw htw2 htn
    go_enter Try.func7, Try.ntmps7
    go_upto_region 3 with fail
    obtain ⟨V0, hV0⟩ : ∃ V0, (w.alloc (.cells #[.int .i64 ks, .int .i64 ke, .int .i64 kr, .bool kn, .int .i64 kf, .int .i64 km, .int .i64 ko, .int .i64 kl] 23)) = V0 := ⟨_, rfl⟩
    rw [hV0] at HX0
    try rw [hV0]
    clear hV0
    obtain ⟨k0, k1, k2, k3, k4, k5, k6, k7⟩ := HX0.out.1.cells
    go_wp2_with fail
    refine (q2 _ (HT.out.later HX0.out.2)).mono ?_
    rintro e w1 ⟨va1, vc1, rfl, hR1, hB1⟩
    have HX1 : Hid (BoxK w1 w.heap.size (.int .i64 ks) (.int .i64 ke) (.int .i64 kr) (.bool kn) (.int .i64 kf) (.int .i64 km) (.int .i64 ko) (.int .i64 kl) ∧ Below w.heap.size w w1) := ⟨HX0.out.1.later hB1, Below.on HX0.out.2 hB1⟩
    clear HX0 hB1 hR1 q2 k0 k1 k2 k3 k4 k5 k6 k7
    obtain ⟨k0, k1, k2, k3, k4, k5, k6, k7⟩ := HX1.out.1.cells
    go_wp2_with fail
    refine (q3 _ (HT.out.later HX1.out.2)).mono ?_
    rintro e w2 ⟨va2, vc2, rfl, hR2, hB2⟩
    have HX2 : Hid (Below w.heap.size w w2) := Below.on HX1.out.2 hB2
    clear HX1 hB2 hR2 q3 k0 k1 k2 k3 k4 k5 k6 k7
    go_wp2_with fail
    refine (q7 _).mono ?_
    rintro e w6 ⟨rfl, hB6⟩
    go_wp2_with fail
    go_ret
    exact ⟨rfl, Below.on HX2.out hB6⟩
theorem less_walk (ks ke kr : Int) (kn : Bool) (kf km ko kl : Int) (A : Option Addr) (cap : Nat) (ts : List Rc) (now wait more : Int) (w : World) (hk : I64 ks ∧ I64 ke ∧ I64 kr ∧ I64 kf ∧ I64 km ∧ I64 ko ∧ I64 kl) (hT : RecsAt w A ts) (hA : A = none → cap = 0) (hr : ts.length * 80 ≤ 140737488351232) (h1 : I64 now) (h2 : I64 wait) (h3 : I64 more) : Calls Try.prog 7 #[.agg #[.int .i64 ks, .int .i64 ke, .int .i64 kr, .bool kn, .int .i64 kf, .int .i64 km, .int .i64 ko, .int .i64 kl], .slice A ts.length cap, .int .i64 now, .int .i64 wait, .int .i64 more] w fun e w' => e = .returned (.bool true) ∧ Below w.heap.size w w' := by
  by_cases c0 : more < 0
  · exact less_out0 ks ke kr kn kf km ko kl A cap ts now wait more w c0
  by_cases c1 : 1099511627776 < more
  · exact less_out1 ks ke kr kn kf km ko kl A cap ts now wait more w c1 (by omega)
  by_cases c2 : wait < 0
  · exact less_out2 ks ke kr kn kf km ko kl A cap ts now wait more w c2 (by omega) (by omega)
  by_cases c3 : 1099511627776 < wait
  · exact less_out3 ks ke kr kn kf km ko kl A cap ts now wait more w c3 (by omega) (by omega) (by omega)
  by_cases c4 : now < 0
  · exact less_out4 ks ke kr kn kf km ko kl A cap ts now wait more w c4 (by omega) (by omega) (by omega) (by omega)
  by_cases c5 : 1099511627776 < now
  · exact less_out5 ks ke kr kn kf km ko kl A cap ts now wait more w c5 (by omega) (by omega) (by omega) (by omega) (by omega)
  exact less_main ks ke kr kn kf km ko kl A cap ts now wait more w hT hA hr (by omega) (by omega) (by omega) (by omega) (by omega) (by omega)
end Go.Proofs.Ytfkkpianlmpknaa
