/- The walk of BoardDrops. -/
import Derived.Test.YtokiklaffbdomaaDropsP
namespace Go.Proofs.Ytokiklaffbdomaa
open Go.ChangeShapes Go.WideShapes Go.ChangeAt Go.RowKit Go.Shelf
set_option linter.unusedVariables false
attribute [local go_sem] Oper.semAt_some

set_option maxRecDepth 100000 in
set_option maxHeartbeats 4000000 in
theorem drops_walk (A : Option Addr) (cap : Nat) (ts : List Rc) (now : Int) (w : World) (hT : RecsAt w A ts) (hA : A = none → cap = 0) (hb : ts.length * 80 ≤ 140737488351232) :
    Calls Try.prog 8 #[.slice A ts.length cap, .int .i64 now] w fun e W' => e = .returned (.bool true) ∧ Below w.heap.size w W' := by
  have c1 := drop_any A cap ts w hT hA
  cases hok : okB ts with
  | false =>
    have e1 : dropL ts = [] := by unfold dropL; rw [hok]; rfl
    rw [e1, chk_no hok] at c1
    clear e1 hok hT hA hb
    go_enter Try.func8, Try.ntmps8
    go_wp2_with fail
    refine c1.mono ?_
    rintro e w1 ⟨va, vc, rfl, _, hB1⟩
    go_wp2_with fail
    refine (heads_walk _).mono ?_
    rintro e w2 ⟨rfl, hB2⟩
    go_wp2_with fail
    go_ret
    exact ⟨rfl, Below.on hB1 hB2⟩
  | true =>
    rw [chk_yes hok] at c1
    by_cases htm : 0 ≤ now ∧ now ≤ 1125899906842624
    · have htm' : tmB now = true := decide_eq_true htm
      obtain ⟨hn1, hn2⟩ := htm
      have hlen := (okB_iff.1 hok).1
      obtain ⟨n, hn⟩ : ∃ n, ts.length = n := ⟨_, rfl⟩
      rw [back_zero hok now, backL_len, hn] at c1
      have HN : Hid (ts.length = n) := hn
      have HOK : Hid (okB ts = true ∧ tmB now = true ∧ RecsAt w A ts) := ⟨hok, htm', hT⟩
      have CP : Hid (∀ (U : World) (va : Option Addr) (vc i : Nat), RowR U w.heap.size va n vc (backL now ts i) → Calls Try.prog 11 #[.slice va n vc] U fun e W' => e = .returned (.int .i64 (sizeL (ts.take i))) ∧ Below U.heap.size U W') := fun U va vc i hU => by
        have := pipe_any va vc (backL now ts i) U hU.recs; rwa [backL_len, hn, back_pipe hok htm'] at this
      have CS : Hid (∀ (U : World) (va : Option Addr) (vc : Nat), RowR U w.heap.size va n vc (backL now ts 0) → Calls Try.prog 30 #[.slice va n vc] U fun e W' => e = .returned (.int .i64 0) ∧ Below U.heap.size U W') := fun U va vc hU => by
        have := sacked_any va vc (backL now ts 0) U hU.recs; rwa [backL_len, hn, back_sacked hok htm'] at this
      have CL : Hid (∀ (U : World) (va : Option Addr) (vc i : Nat), RowR U w.heap.size va n vc (backL now ts i) → Calls Try.prog 26 #[.slice va n vc] U fun e W' => e = .returned (.int .i64 (if i < n then (i : Int) else -1)) ∧ Below U.heap.size U W') := fun U va vc i hU => by
        have := lost_any va vc (backL now ts i) U hU.recs; rwa [backL_len, hn, back_lost hok htm', hn] at this
      have CA : Hid (∀ (U : World) (va : Option Addr) (vc i : Nat), i < n → w.heap.size ≤ U.heap.size → RowR U w.heap.size va n vc (backL now ts i) → Calls Try.prog 9 #[.slice va n vc, .int .i64 i, .int .i64 now] U fun e W' => ∃ va' vc', e = .returned (.tuple #[.slice va' n vc', .int .i64 0]) ∧ RowR W' w.heap.size va' n vc' (backL now ts (i + 1)) ∧ Below U.heap.size U W') := fun U va vc i hi hs hU => by
        have := again_any va vc (backL now ts i) i now U hU.recs hU.none0
        rw [backL_len, hn, (back_again hok htm' (by omega)).1, (back_again hok htm' (by omega)).2, backL_len, hn] at this
        refine this.mono ?_
        rintro e W' ⟨va', vc', h1, h2, h3⟩
        exact ⟨va', vc', h1, h2.mono hs, h3⟩
      rw [hn] at hlen ⊢
      clear hok htm' hT hA hb hn
      go_enter Try.func8, Try.ntmps8
      go_wp2_with fail
      refine c1.mono ?_
      rintro e w1 ⟨va, vc, rfl, hR1, hB1⟩
      clear c1
      go_wp2_with fail
      refine (CP.out w1 va vc 0 hR1).mono ?_
      rintro e w2 ⟨rfl, hB2⟩
      have e0 : sizeL (ts.take 0) = 0 := rfl
      rw [e0]
      clear e0
      go_wp2_with fail
      refine (CS.out w2 va vc (hR1.later hB2)).mono ?_
      rintro e w3 ⟨rfl, hB3⟩
      have HR3 : Hid (RowR w3 w.heap.size va n vc (backL now ts 0)) := (hR1.later hB2).later hB3
      have HB3 : Hid (Below w.heap.size w w3) := Below.on (Below.on hB1 hB2) hB3
      clear hR1 hB1 hB2 hB3
      go_wp2_with fail
      go_loopw [5, 7, 8] (fun vm vw vi wr => ∃ (i : Nat) (va : Option Addr) (vc : Nat), i ≤ n ∧ vi = .int .i64 i ∧ vm = .slice va n vc ∧ vw = .int .i64 (sizeL (ts.take i)) ∧ Hid (RowR wr w.heap.size va n vc (backL now ts i)) ∧ Hid (Below w.heap.size w wr))
        (fun _ _ vi _ => n - (intOf vi).toNat)
      case atStart => exact ⟨0, va, vc, Nat.zero_le _, rfl, rfl, rfl, HR3.out, HB3.out⟩
      case round =>
        obtain ⟨i, va, vc, hi, rfl, rfl, rfl, HR, HB⟩ := hrel
        by_cases hlt : i < n
        · have cl := CL.out wr va vc i HR.out
          rw [if_pos hlt] at cl
          obtain ⟨sb1, sb2⟩ := size_take_bound HOK.out.1 i
          obtain ⟨sc1, sc2⟩ := size_take_bound HOK.out.1 (i + 1)
          have hst : sizeL (ts.take (i + 1)) = sizeL (ts.take i) + (nth ts i).t - (nth ts i).f := by
            rw [take_nth (by rw [HN.out]; exact hlt), sizeL_snoc]; omega
          have hor := okR_out (okB_at HOK.out.1 (show i < ts.length by rw [HN.out]; exact hlt))
          obtain ⟨x, hx⟩ : ∃ x, nth ts i = x := ⟨_, rfl⟩
          obtain ⟨s0, hs0⟩ : ∃ s0, sizeL (ts.take i) = s0 := ⟨_, rfl⟩
          rw [hx] at hst hor
          rw [hs0] at hst sb1 sb2 ⊢
          rw [hst] at sc1 sc2
          have HST : Hid (sizeL (ts.take (i + 1)) = s0 + x.t - x.f) := hst
          have HX : Hid (nth ts i = x) := hx
          obtain ⟨hx1, hx2, hx3, _⟩ := hor
          clear hst hx hs0
          go_wp2_with fail
          refine cl.mono ?_
          rintro e W1 ⟨rfl, hB1⟩
          have ca := CA.out W1 va vc i hlt (Nat.le_trans HB.out.size hB1.size) (HR.out.later hB1)
          clear cl
          go_wp2_with fail
          refine ca.mono ?_
          rintro e W2 ⟨na, nc, rfl, hR2, hB2⟩
          have HB2 : Hid (Below w.heap.size w W2) := Below.on (Below.on HB.out hB1) hB2
          have HR2 : Hid (RowR W2 w.heap.size na n nc (backL now ts (i + 1))) := hR2
          obtain ⟨b, o, rfl, hl⟩ := (HOK.out.2.2.later HB2.out).2 i (by rw [HN.out]; exact hlt)
          rw [HX.out] at hl
          obtain ⟨k0, k1, _⟩ := hl.out
          have hlt' : (i : Int) < (n : Int) := by omega
          clear ca hB1 hB2 hR2 hl
          go_upto_region 13 with fail
          go_quiet (fail)
          obtain ⟨W3, hW3⟩ : ∃ W3, W2.drewN nq = W3 := ⟨_, rfl⟩
          have HB3 : Hid (Below w.heap.size w W3) := by rw [← hW3]; exact below_drewN HB2.out _
          have HR3 : Hid (RowR W3 w.heap.size na n nc (backL now ts (i + 1))) := by rw [← hW3]; exact HR2.out
          rw [hW3]
          have cp := CP.out W3 na nc (i + 1) HR3.out
          rw [HST.out] at cp
          clear hW3 HB2 HR2 k0 k1
          go_wp2_with fail
          refine cp.mono ?_
          rintro e W4 ⟨rfl, hB4⟩
          have HR4 : Hid (RowR W4 w.heap.size na n nc (backL now ts (i + 1))) := HR3.out.later hB4
          have HB4 : Hid (Below w.heap.size w W4) := Below.on HB3.out hB4
          obtain ⟨g, rfl, _, _⟩ := row_some HR4.out (by omega)
          have ks := (row_cells HR4.out i hlt).out.2.2.2.1
          rw [backL_nth now (by rw [HN.out]; exact hlt), if_pos (by omega)] at ks
          have ks2 : W4.cell? ⟨g, i * 12 + 3, none⟩ = some (.int .i64 now) := ks
          clear cp ks HR3 HB3 hB4
          go_wp2_with fail
          go_roundw
          case rel => exact ⟨i + 1, _, nc, by omega, by go_num, rfl, by rw [HST.out], HR4.out, HB4.out⟩
          case measure => simp [intOf]; omega
        · obtain rfl : i = n := by omega
          have cl := CL.out wr va vc i HR.out
          rw [if_neg (by omega)] at cl
          go_wp2_with fail
          refine cl.mono ?_
          rintro e W1 ⟨rfl, hB1⟩
          go_wp2_with fail
          refine (heads_walk _).mono ?_
          rintro e W2 ⟨rfl, hB2⟩
          go_wp2_with fail
          go_ret
          exact ⟨rfl, Below.on (Below.on HB.out hB1) hB2⟩
    · clear hok hT hA hb
      by_cases hn1 : now < 0
      · go_enter Try.func8, Try.ntmps8
        go_wp2_with fail
        refine c1.mono ?_
        rintro e w1 ⟨va, vc, rfl, _, hB1⟩
        go_wp2_with fail
        refine (heads_walk _).mono ?_
        rintro e w2 ⟨rfl, hB2⟩
        go_wp2_with fail
        go_ret
        exact ⟨rfl, Below.on hB1 hB2⟩
      · have hn2 : 1125899906842624 < now := by omega
        clear htm
        go_enter Try.func8, Try.ntmps8
        go_wp2_with fail
        refine c1.mono ?_
        rintro e w1 ⟨va, vc, rfl, _, hB1⟩
        go_wp2_with fail
        refine (heads_walk _).mono ?_
        rintro e w2 ⟨rfl, hB2⟩
        go_wp2_with fail
        go_ret
        exact ⟨rfl, Below.on hB1 hB2⟩
end Go.Proofs.Ytokiklaffbdomaa
