/- The contract of Again. -/
import Derived.Test.YtokiklaffbdomaaStore
namespace Go.Proofs.Ytokiklaffbdomaa
open Go.ChangeShapes Go.WideShapes Go.ChangeAt Go.RowKit Go.Shelf
set_option linter.unusedVariables false
attribute [local go_sem] Oper.semAt_some

def againR (x : Rc) (now : Int) : Rc := ⟨x.f, x.t, x.fin, now, min x.tx 999999 + 1, x.sk, x.lo, x.lo, x.gv, x.ga, x.fa, x.idl⟩
def mayB (ts : List Rc) (at_ now : Int) : Bool := decide (0 ≤ at_ ∧ at_ < ts.length) && tmB now
def againE (ts : List Rc) (at_ now : Int) : Int := if okB ts = true then (if mayB ts at_ now = true then 0 else 2) else 100
def againL (ts : List Rc) (at_ now : Int) : List Rc := if okB ts = true then (if mayB ts at_ now = true then ts.set at_.toNat (againR (nth ts at_.toNat) now) else []) else []
set_option maxRecDepth 100000 in
set_option maxHeartbeats 800000 in
theorem again_any (A : Option Addr) (cap : Nat) (ts : List Rc) (at_ now : Int) (w : World) (hT : RecsAt w A ts) (hA : A = none → cap = 0) :
    Calls Try.prog 9 #[.slice A ts.length cap, .int .i64 at_, .int .i64 now] w fun e W' => ∃ va vc, e = .returned (.tuple #[.slice va (againL ts at_ now).length vc, .int .i64 (againE ts at_ now)]) ∧ RowR W' w.heap.size va (againL ts at_ now).length vc (againL ts at_ now) ∧ Below w.heap.size w W' := by
  cases hc : okB ts with
  | false =>
    have HS : Hid (againL ts at_ now = [] ∧ againE ts at_ now = 100) := by unfold Hid againL againE; rw [hc]; exact ⟨rfl, rfl⟩
    have c1 := check_no A cap ts w hT hc
    clear hc hT hA
    go_enter Try.func9, Try.ntmps9
    go_wp2_with fail
    refine c1.mono ?_
    rintro e w1 ⟨rfl, hB1⟩
    go_wp2_with fail
    go_ret2
    rw [HS.out.1, HS.out.2]
    exact ⟨none, 0, rfl, RowR.nil _ _, hB1⟩
  | true =>
    have c1 := check_ok A cap ts w hT hc
    have hlen := (okB_iff.1 hc).1
    by_cases hat : 0 ≤ at_ ∧ at_ < ts.length
    · cases htm : tmB now with
      | false =>
        have HS : Hid (againL ts at_ now = [] ∧ againE ts at_ now = 2) := by unfold Hid againL againE mayB; rw [hc, htm]; simp
        have c3 := fun w => isTime_is now w false htm
        clear hc hT hA htm
        obtain ⟨ha1, ha2⟩ := hat
        go_enter Try.func9, Try.ntmps9
        go_wp2_with fail
        refine c1.mono ?_
        rintro e w1 ⟨rfl, hB1⟩
        go_wp2_with fail
        refine (c3 _).mono ?_
        rintro e w2 ⟨rfl, rfl⟩
        go_wp2_with fail
        go_ret2
        rw [HS.out.1, HS.out.2]
        exact ⟨none, 0, rfl, RowR.nil _ _, hB1⟩
      | true =>
        have HS : Hid (againL ts at_ now = ts.set at_.toNat (againR (nth ts at_.toNat) now) ∧ againE ts at_ now = 0) := by unfold Hid againL againE mayB; rw [hc, htm, decide_eq_true hat]; simp
        have c3 := fun w => isTime_is now w true htm
        obtain ⟨j, rfl⟩ : ∃ j : Nat, at_ = j := ⟨at_.toNat, by omega⟩
        have hj : j < ts.length := by omega
        have htx := okR_out (okB_at hc hj)
        rw [Int.toNat_natCast] at HS
        have HT : Hid (RecsAt w A ts ∧ (A = none → cap = 0)) := ⟨hT, hA⟩
        obtain ⟨x, hx⟩ : ∃ x, nth ts j = x := ⟨_, rfl⟩
        have HX : Hid (nth ts j = x) := hx
        rw [hx] at HS htx
        obtain ⟨_, _, _, htx, _⟩ := htx
        obtain ⟨n, hn⟩ : ∃ n, ts.length = n := ⟨_, rfl⟩
        have HN : Hid (ts.length = n) := hn
        clear hc hT hA htm hat hx hn
        go_enter Try.func9, Try.ntmps9
        go_wp2_with fail
        refine c1.mono ?_
        rintro e w1 ⟨rfl, hB1⟩
        go_wp2_with fail
        refine (c3 _).mono ?_
        rintro e w2 ⟨rfl, rfl⟩
        have c2 := clone_any A cap ts w2 (HT.out.1.later hB1) HT.out.2 (by omega)
        clear c1 c3
        go_wp2_with fail
        refine c2.mono ?_
        rintro e w3 ⟨va, vc, rfl, hR2, hB2⟩
        obtain ⟨g, rfl, hg1, hg2⟩ := row_some hR2 (by omega)
        have hg0 : w.heap.size ≤ g := Nat.le_trans hB1.size hg1
        have r0 : RowR w3 w.heap.size (some ⟨g, 0, none⟩) ts.length vc ts := hR2.mono hB1.size
        have hB3 : Below w.heap.size w w3 := Below.on hB1 hB2
        have r1 := row_set r0 j 3 hj (by omega) (.int .i64 now) ⟨x.f, x.t, x.fin, now, x.tx, x.sk, x.lo, x.ag, x.gv, x.ga, x.fa, x.idl⟩ (by rw [HX.out]; rfl)
        have r2 := row_set r1 j 4 hj (by omega) (.int .i64 (min x.tx 999999 + 1)) ⟨x.f, x.t, x.fin, now, min x.tx 999999 + 1, x.sk, x.lo, x.ag, x.gv, x.ga, x.fa, x.idl⟩ (by rw [nth_set_self hj]; rfl)
        have r3 := row_set r2 j 7 hj (by omega) (.bool x.lo) (againR x now) (by rw [nth_set_self (by simpa using hj)]; rfl)
        have e1 : nth (ts.set j ⟨x.f, x.t, x.fin, now, x.tx, x.sk, x.lo, x.ag, x.gv, x.ga, x.fa, x.idl⟩) j = ⟨x.f, x.t, x.fin, now, x.tx, x.sk, x.lo, x.ag, x.gv, x.ga, x.fa, x.idl⟩ := nth_set_self hj _
        have e2 : nth ((ts.set j ⟨x.f, x.t, x.fin, now, x.tx, x.sk, x.lo, x.ag, x.gv, x.ga, x.fa, x.idl⟩).set j ⟨x.f, x.t, x.fin, now, min x.tx 999999 + 1, x.sk, x.lo, x.ag, x.gv, x.ga, x.fa, x.idl⟩) j = ⟨x.f, x.t, x.fin, now, min x.tx 999999 + 1, x.sk, x.lo, x.ag, x.gv, x.ga, x.fa, x.idl⟩ := nth_set_self (by simpa using hj) _
        have k3 := (row_cells r0 j hj).out.2.2.2.1
        have q1 := (row_cells r1 j hj).out.2.2.2.2.1
        have q2 := (row_cells r2 j hj).out.2.2.2.2.2.2
        rw [e1] at q1
        rw [e2] at q2
        obtain ⟨q6, q7, _⟩ := q2
        simp only at q1 q6 q7
        have f1 := row_frozen r0 (j * 12 + 3)
        have f2 := row_frozen r1 (j * 12 + 4)
        have f3 := row_frozen r2 (j * 12 + 7)
        have HF : Hid (RowR (((w3.setCell ⟨g, j * 12 + 3, none⟩ (.int .i64 now)).setCell ⟨g, j * 12 + 4, none⟩ (.int .i64 (min x.tx 999999 + 1))).setCell ⟨g, j * 12 + 7, none⟩ (.bool x.lo)) w.heap.size (some ⟨g, 0, none⟩) n vc (ts.set j (againR x now))) := by
          unfold Hid; rw [List.set_set, List.set_set] at r3; rw [← HN.out]; exact r3
        have HB : Hid (Below w.heap.size w (((w3.setCell ⟨g, j * 12 + 3, none⟩ (.int .i64 now)).setCell ⟨g, j * 12 + 4, none⟩ (.int .i64 (min x.tx 999999 + 1))).setCell ⟨g, j * 12 + 7, none⟩ (.bool x.lo))) := below_set (below_set (below_set hB3 hg0 _ _) hg0 _ _) hg0 _ _
        have HL : Hid ((ts.set j (againR x now)).length = n) := by unfold Hid; rw [List.length_set, HN.out]
        rw [HN.out] at hj ⊢
        obtain ⟨m, hm, hcase⟩ : ∃ m, min x.tx 999999 + 1 = m ∧ ((x.tx ≤ 999999 ∧ m = x.tx + 1) ∨ (999999 < x.tx ∧ m = 1000000)) := ⟨_, rfl, by omega⟩
        rw [hm] at q6 q7 f3 HF HB
        have HSE : Hid (_ ∧ _) := HS.out
        clear r0 r1 r2 r3 c2 hB1 hB2 hB3 hR2 e1 e2 hg1 hg2 hg0 hm HT HS
        rcases hcase with ⟨h1, rfl⟩ | ⟨h1, rfl⟩
        · go_wp2_with fail
          go_ret2
          rw [HSE.out.1, HSE.out.2, HL.out]
          exact ⟨_, vc, rfl, HF.out, HB.out⟩
        · go_wp2_with fail
          go_ret2
          rw [HSE.out.1, HSE.out.2, HL.out]
          exact ⟨_, vc, rfl, HF.out, HB.out⟩
    · have HS : Hid (againL ts at_ now = [] ∧ againE ts at_ now = 2) := by unfold Hid againL againE mayB; rw [hc, decide_eq_false hat]; simp
      clear hc hT hA
      by_cases ha1 : at_ < 0
      · go_enter Try.func9, Try.ntmps9
        go_wp2_with fail
        refine c1.mono ?_
        rintro e w1 ⟨rfl, hB1⟩
        go_wp2_with fail
        go_ret2
        rw [HS.out.1, HS.out.2]
        exact ⟨none, 0, rfl, RowR.nil _ _, hB1⟩
      · have ha2 : (ts.length : Int) ≤ at_ := by omega
        go_enter Try.func9, Try.ntmps9
        go_wp2_with fail
        refine c1.mono ?_
        rintro e w1 ⟨rfl, hB1⟩
        go_wp2_with fail
        go_ret2
        rw [HS.out.1, HS.out.2]
        exact ⟨none, 0, rfl, RowR.nil _ _, hB1⟩
end Go.Proofs.Ytokiklaffbdomaa
