/- The walk of RackNever. -/
import Derived.Test.YtfkkpianlmpknaaHeads
import Derived.Test.YtfkkpianlmpknaaSame
import Derived.Test.YtfkkpianlmpknaaLawP
namespace Go.Proofs.Ytfkkpianlmpknaa
open Go.ChangeShapes Go.WideShapes Go.ChangeAt Go.RowKit Go.Shelf
set_option linter.unusedVariables false
set_option linter.unusedSimpArgs false
attribute [local go_sem] Oper.semAt_some

set_option maxRecDepth 100000 in
set_option maxHeartbeats 4000000 in
theorem never_walk (ks ke kr : Int) (kn : Bool) (kf km ko kl : Int) (A : Option Addr) (cap : Nat) (ts : List Rc) (now wait : Int) (w : World) (hk : I64 ks ∧ I64 ke ∧ I64 kr ∧ I64 kf ∧ I64 km ∧ I64 ko ∧ I64 kl) (hT : RecsAt w A ts) (hA : A = none → cap = 0) (hr : ts.length * 80 ≤ 140737488351232) (h1 : I64 now) (h2 : I64 wait) : Calls Try.prog 6 #[.agg #[.int .i64 ks, .int .i64 ke, .int .i64 kr, .bool kn, .int .i64 kf, .int .i64 km, .int .i64 ko, .int .i64 kl], .slice A ts.length cap, .int .i64 now, .int .i64 wait] w fun e w' => e = .returned (.bool true) ∧ Below w.heap.size w w' := by
  obtain ⟨L, hL⟩ : ∃ L, mrkL ⟨ks, ke, kr, kn, kf, km, ko, kl⟩ ts now wait = L := ⟨_, rfl⟩
  obtain ⟨li, hli⟩ : ∃ a, mrkI ⟨ks, ke, kr, kn, kf, km, ko, kl⟩ ts now wait = a := ⟨_, rfl⟩
  obtain ⟨er, her⟩ : ∃ a, mrkE ⟨ks, ke, kr, kn, kf, km, ko, kl⟩ ts now wait = a := ⟨_, rfl⟩
  obtain ⟨n, hn⟩ : ∃ n, ts.length = n := ⟨_, rfl⟩
  have hml : n ≤ 9223372036854775807 := by rw [← hn]; exact hT.1
  have HT : Hid (RecsAt w A ts) := hT
  have q7 := heads_any
  have q2 : ∀ W, RecsAt W A ts → Calls Try.prog 25 #[.agg #[.int .i64 ks, .int .i64 ke, .int .i64 kr, .bool kn, .int .i64 kf, .int .i64 km, .int .i64 ko, .int .i64 kl], .slice A n cap, .int .i64 now, .int .i64 wait] W fun e w' => ∃ va vc, e = .returned (.tuple #[.slice va L.length vc, .int .i64 li, .int .i64 er]) ∧ RowR w' W.heap.size va L.length vc L ∧ Below W.heap.size W w' := fun W h => by
    rw [← hn]; exact mark_is ks ke kr kn kf km ko kl now wait A cap ts W h hA (by omega) L hL li hli er her
  have HX0 : Hid (BoxK (w.alloc (.cells #[.int .i64 ks, .int .i64 ke, .int .i64 kr, .bool kn, .int .i64 kf, .int .i64 km, .int .i64 ko, .int .i64 kl] 23)) w.heap.size (.int .i64 ks) (.int .i64 ke) (.int .i64 kr) (.bool kn) (.int .i64 kf) (.int .i64 km) (.int .i64 ko) (.int .i64 kl) ∧ Below w.heap.size w (w.alloc (.cells #[.int .i64 ks, .int .i64 ke, .int .i64 kr, .bool kn, .int .i64 kf, .int .i64 km, .int .i64 ko, .int .i64 kl] 23))) := ⟨BoxK.new w _ _ _ _ _ _ _ _, below_more (Below.refl _ _) _⟩
  by_cases hE : er = 0
  · subst hE
    obtain ⟨hok, ht1, ht2, hrs, hLm, _⟩ := mrk_yes her
    have hLn : L.length = n := by rw [← hL, hLm]; simpa using hn
    rw [hLn] at q2
    have HL : Hid (L = ts.map (markX ⟨ks, ke, kr, kn, kf, km, ko, kl⟩ now wait) ∧ ts.length = n ∧ recsB now ts = true) := ⟨by rw [← hL]; exact hLm, hn, hrs⟩
    have hkr := (ok_nums hok).2.2.1
    simp only at hkr
    have htn := tm_out ht1
    have htw := tm_out ht2
    rw [hn]
    clear hL hli her hn hT hk hr h1 h2 hok ht1 ht2 hrs hLm hLn
    go_enter Try.func6, Try.ntmps6
    go_upto_region 1 with fail
    obtain ⟨V0, hV0⟩ : ∃ V0, (w.alloc (.cells #[.int .i64 ks, .int .i64 ke, .int .i64 kr, .bool kn, .int .i64 kf, .int .i64 km, .int .i64 ko, .int .i64 kl] 23)) = V0 := ⟨_, rfl⟩
    rw [hV0] at HX0
    try rw [hV0]
    clear hV0
    obtain ⟨k0, k1, k2, k3, k4, k5, k6, k7⟩ := HX0.out.1.cells
    go_wp2_with fail
    refine (q2 _ (HT.out.later HX0.out.2)).mono ?_
    rintro e w1 ⟨va1, vc1, rfl, hR1, hB1⟩
    have HX1 : Hid (BoxK w1 w.heap.size (.int .i64 ks) (.int .i64 ke) (.int .i64 kr) (.bool kn) (.int .i64 kf) (.int .i64 km) (.int .i64 ko) (.int .i64 kl) ∧ RowR w1 V0.heap.size va1 n vc1 L ∧ RecsAt w1 A ts ∧ Below w.heap.size w w1) := ⟨HX0.out.1.later hB1, hR1, HT.out.later (Below.on HX0.out.2 hB1), Below.on HX0.out.2 hB1⟩
    clear HX0 hB1 hR1 q2 k0 k1 k2 k3 k4 k5 k6 k7
    obtain ⟨k0, k1, k2, k3, k4, k5, k6, k7⟩ := HX1.out.1.cells
    go_wp2_with fail
    go_loopw [12] (fun vi wr => ∃ (i q : Nat), vi = .int .i64 i ∧ i ≤ n ∧ wr = w1.drewN q)
      (fun vi _ => n - (intOf vi).toNat)
    case atStart => exact ⟨0, 0, rfl, Nat.zero_le _, rfl⟩
    case round =>
      obtain ⟨i, q, rfl, hin, rfl⟩ := hrel
      by_cases hlt : i < n
      · have hi' : i < ts.length := by have := HL.out.2.1; omega
        obtain ⟨g, rfl, hg1, hg2⟩ := row_some HX1.out.2.1 (by omega)
        have hrc := row_cells HX1.out.2.1 i hlt
        have hrx := HX1.out.2.2.1.2 i hi'
        obtain ⟨b, o, rfl, hrx⟩ := hrx
        rw [HL.out.1, nth_map hi'] at hrc
        have hrb := recs_at HL.out.2.2 hi'
        obtain ⟨x, hx⟩ : ∃ x, nth ts i = x := ⟨_, rfl⟩
        rw [hx] at hrc hrx hrb
        have hro := rec_out hrb
        have hlt' : (i : Int) < (n : Int) := by omega
        rcases mark_cases ⟨ks, ke, kr, kn, kf, km, ko, kl⟩ now wait x with ⟨hm, hsk, hfl, hse, hsu⟩ | hm
        · rw [hm] at hrc
          obtain ⟨xf, xt, xn, xs, xx, xk, xl, xa, xg, xh, xj, xi⟩ := x
          have hw0 : 0 ≤ xs ∧ xs ≤ now := ⟨hro.2.2.1, hro.2.2.2.1⟩
          have d1 : decide (ks < xs) = false := by have : xs ≤ ks := hse; simp; omega
          have d2 : decide (now < xs + kr + wait) = false := by have : xs + kr + wait ≤ now := hsu; simp; omega
          have hsk0 : xk = false := hsk
          have hfl0 : xl = false ∨ xa = true := hfl
          subst hsk0
          have hm0 : w1.cell? ⟨g, i * 12, none⟩ = some (.int .i64 xf) ∧ w1.cell? ⟨g, i * 12 + 1, none⟩ = some (.int .i64 xt) ∧ w1.cell? ⟨g, i * 12 + 2, none⟩ = some (.bool xn) ∧ w1.cell? ⟨g, i * 12 + 3, none⟩ = some (.int .i64 xs) ∧ w1.cell? ⟨g, i * 12 + 4, none⟩ = some (.int .i64 xx) ∧ w1.cell? ⟨g, i * 12 + 5, none⟩ = some (.bool false) ∧ w1.cell? ⟨g, i * 12 + 6, none⟩ = some (.bool true) ∧ w1.cell? ⟨g, i * 12 + 7, none⟩ = some (.bool false) ∧ w1.cell? ⟨g, i * 12 + 8, none⟩ = some (.int .i64 xg) ∧ w1.cell? ⟨g, i * 12 + 9, none⟩ = some (.int .i64 xh) ∧ w1.cell? ⟨g, i * 12 + 10, none⟩ = some (.int .i64 xj) ∧ w1.cell? ⟨g, i * 12 + 11, none⟩ = some (.bool xi) := hrc.out
          have hl0 : w1.cell? ⟨b, o + i * 12, none⟩ = some (.int .i64 xf) ∧ w1.cell? ⟨b, o + i * 12 + 1, none⟩ = some (.int .i64 xt) ∧ w1.cell? ⟨b, o + i * 12 + 2, none⟩ = some (.bool xn) ∧ w1.cell? ⟨b, o + i * 12 + 3, none⟩ = some (.int .i64 xs) ∧ w1.cell? ⟨b, o + i * 12 + 4, none⟩ = some (.int .i64 xx) ∧ w1.cell? ⟨b, o + i * 12 + 5, none⟩ = some (.bool false) ∧ w1.cell? ⟨b, o + i * 12 + 6, none⟩ = some (.bool xl) ∧ w1.cell? ⟨b, o + i * 12 + 7, none⟩ = some (.bool xa) ∧ w1.cell? ⟨b, o + i * 12 + 8, none⟩ = some (.int .i64 xg) ∧ w1.cell? ⟨b, o + i * 12 + 9, none⟩ = some (.int .i64 xh) ∧ w1.cell? ⟨b, o + i * 12 + 10, none⟩ = some (.int .i64 xj) ∧ w1.cell? ⟨b, o + i * 12 + 11, none⟩ = some (.bool xi) := hrx.out
          clear hx hrc hrx hrb hro hm hse hsu hsk hfl
          obtain ⟨p0, p1, p2, p3, p4, p5, p6, p7, p8, p9, p10, p11⟩ := hm0
          obtain ⟨x0, x1, x2, x3, x4, x5, x6, x7, x8, x9, x10, x11⟩ := hl0
          rcases hfl0 with rfl | rfl
          · go_upto_region 10 with fail
            go_quiet (fail)
            go_upto_region 12 with fail
            go_quiet (fail)
            go_wp2_with fail
            go_roundw
            case rel => exact ⟨i + 1, _, by go_num, by omega, rfl⟩
            case measure => simp [intOf]; omega
          · cases xl
            · go_upto_region 10 with fail
              go_quiet (fail)
              go_upto_region 12 with fail
              go_quiet (fail)
              go_wp2_with fail
              go_roundw
              case rel => exact ⟨i + 1, _, by go_num, by omega, rfl⟩
              case measure => simp [intOf]; omega
            · go_upto_region 10 with fail
              go_quiet (fail)
              go_upto_region 12 with fail
              go_quiet (fail)
              go_wp2_with fail
              go_roundw
              case rel => exact ⟨i + 1, _, by go_num, by omega, rfl⟩
              case measure => simp [intOf]; omega
        · rw [hm] at hrc
          obtain ⟨xf, xt, xn, xs, xx, xk, xl, xa, xg, xh, xj, xi⟩ := x
          have hm0 : w1.cell? ⟨g, i * 12, none⟩ = some (.int .i64 xf) ∧ w1.cell? ⟨g, i * 12 + 1, none⟩ = some (.int .i64 xt) ∧ w1.cell? ⟨g, i * 12 + 2, none⟩ = some (.bool xn) ∧ w1.cell? ⟨g, i * 12 + 3, none⟩ = some (.int .i64 xs) ∧ w1.cell? ⟨g, i * 12 + 4, none⟩ = some (.int .i64 xx) ∧ w1.cell? ⟨g, i * 12 + 5, none⟩ = some (.bool xk) ∧ w1.cell? ⟨g, i * 12 + 6, none⟩ = some (.bool xl) ∧ w1.cell? ⟨g, i * 12 + 7, none⟩ = some (.bool xa) ∧ w1.cell? ⟨g, i * 12 + 8, none⟩ = some (.int .i64 xg) ∧ w1.cell? ⟨g, i * 12 + 9, none⟩ = some (.int .i64 xh) ∧ w1.cell? ⟨g, i * 12 + 10, none⟩ = some (.int .i64 xj) ∧ w1.cell? ⟨g, i * 12 + 11, none⟩ = some (.bool xi) := hrc.out
          have hl0 : w1.cell? ⟨b, o + i * 12, none⟩ = some (.int .i64 xf) ∧ w1.cell? ⟨b, o + i * 12 + 1, none⟩ = some (.int .i64 xt) ∧ w1.cell? ⟨b, o + i * 12 + 2, none⟩ = some (.bool xn) ∧ w1.cell? ⟨b, o + i * 12 + 3, none⟩ = some (.int .i64 xs) ∧ w1.cell? ⟨b, o + i * 12 + 4, none⟩ = some (.int .i64 xx) ∧ w1.cell? ⟨b, o + i * 12 + 5, none⟩ = some (.bool xk) ∧ w1.cell? ⟨b, o + i * 12 + 6, none⟩ = some (.bool xl) ∧ w1.cell? ⟨b, o + i * 12 + 7, none⟩ = some (.bool xa) ∧ w1.cell? ⟨b, o + i * 12 + 8, none⟩ = some (.int .i64 xg) ∧ w1.cell? ⟨b, o + i * 12 + 9, none⟩ = some (.int .i64 xh) ∧ w1.cell? ⟨b, o + i * 12 + 10, none⟩ = some (.int .i64 xj) ∧ w1.cell? ⟨b, o + i * 12 + 11, none⟩ = some (.bool xi) := hrx.out
          clear hx hrc hrx hrb hro hm
          obtain ⟨p0, p1, p2, p3, p4, p5, p6, p7, p8, p9, p10, p11⟩ := hm0
          obtain ⟨x0, x1, x2, x3, x4, x5, x6, x7, x8, x9, x10, x11⟩ := hl0
          have hne := fun w => ne25 ⟨xf, xt, xn, xs, xx, xk, xl, xa, xg, xh, xj, xi⟩ w
          simp only at hne
          cases xl
          · go_upto_region 10 with fail
            go_quiet (fail)
            go_upto_region 12 with fail
            go_quiet (fail)
            go_wp2_with fail
            go_roundw
            case rel => exact ⟨i + 1, _, by go_num, by omega, rfl⟩
            case measure => simp [intOf]; omega
          · cases xa
            · go_upto_region 10 with fail
              go_quiet (fail)
              go_upto_region 12 with fail
              go_quiet (fail)
              go_wp2_with fail
              go_roundw
              case rel => exact ⟨i + 1, _, by go_num, by omega, rfl⟩
              case measure => simp [intOf]; omega
            · go_upto_region 10 with fail
              go_quiet (fail)
              go_upto_region 12 with fail
              go_quiet (fail)
              go_wp2_with fail
              go_roundw
              case rel => exact ⟨i + 1, _, by go_num, by omega, rfl⟩
              case measure => simp [intOf]; omega
      · obtain rfl : i = n := by omega
        go_wp2_with fail
        refine (q7 _).mono ?_
        rintro e w6 ⟨rfl, hB6⟩
        go_wp2_with fail
        go_ret
        exact ⟨rfl, Below.on (below_drewN HX1.out.2.2.2 _) hB6⟩
  · obtain ⟨hLe, _⟩ := mrk_no (k := ⟨ks, ke, kr, kn, kf, km, ko, kl⟩) (l := ts) (now := now) (wait := wait) (by rw [her]; exact hE)
    obtain rfl : L = [] := by rw [← hL]; exact hLe
    have d1 : (er == 0) = false := by simpa using hE
    have d2 : decide (er = 0) = false := by simpa using hE
    have d3 : (er != 0) = true := by simpa using hE
    rw [hn]
    clear hL hli her hn hT hk hr h1 h2 hLe hE
    go_enter Try.func6, Try.ntmps6
    go_upto_region 1 with fail
    obtain ⟨V0, hV0⟩ : ∃ V0, (w.alloc (.cells #[.int .i64 ks, .int .i64 ke, .int .i64 kr, .bool kn, .int .i64 kf, .int .i64 km, .int .i64 ko, .int .i64 kl] 23)) = V0 := ⟨_, rfl⟩
    rw [hV0] at HX0
    try rw [hV0]
    clear hV0
    obtain ⟨k0, k1, k2, k3, k4, k5, k6, k7⟩ := HX0.out.1.cells
    go_wp2_with fail
    refine (q2 _ (HT.out.later HX0.out.2)).mono ?_
    rintro e w1 ⟨va1, vc1, rfl, hR1, hB1⟩
    have HX1 : Hid (Below w.heap.size w w1) := Below.on HX0.out.2 hB1
    clear HX0 hB1 hR1 q2 k0 k1 k2 k3 k4 k5 k6 k7
    go_wp2_with fail
    refine (q7 _).mono ?_
    rintro e w6 ⟨rfl, hB6⟩
    go_wp2_with fail
    go_ret
    exact ⟨rfl, Below.on HX1.out hB6⟩
end Go.Proofs.Ytfkkpianlmpknaa
