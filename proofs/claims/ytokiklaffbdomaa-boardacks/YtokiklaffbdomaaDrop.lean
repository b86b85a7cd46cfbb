/- The contract of Drop. -/
import Derived.Test.YtokiklaffbdomaaStore
namespace Go.Proofs.Ytokiklaffbdomaa
open Go.ChangeShapes Go.WideShapes Go.ChangeAt Go.RowKit Go.Shelf
set_option linter.unusedVariables false
attribute [local go_sem] Oper.semAt_some

def dropR (x : Rc) : Rc := ⟨x.f, x.t, x.fin, x.sent, x.tx, false, true, false, x.gv, x.ga, x.fa, x.idl⟩
def dropL (ts : List Rc) : List Rc := if okB ts = true then ts.map dropR else []
theorem drop_step {ts : List Rc} {i : Nat} (h : i < ts.length) (y : Rc) (hy : y = dropR (nth ts i)) : ((ts.take i).map dropR ++ ts.drop i).set i y = (ts.take (i + 1)).map dropR ++ ts.drop (i + 1) := by
  subst hy
  have e : ts.drop i = nth ts i :: ts.drop (i + 1) := by
    rw [List.drop_eq_getElem_cons h]; simp [nth, h]
  rw [e, List.set_append_right _ _ (by simp; omega), take_nth h]
  have e2 : i - ((ts.take i).map dropR).length = 0 := by simp; omega
  rw [e2, List.set_cons_zero]
  simp
theorem drop_nth {ts : List Rc} {i : Nat} (h : i < ts.length) : nth ((ts.take i).map dropR ++ ts.drop i) i = nth ts i := by
  rw [nth_append_right (by simp; omega)]
  have e2 : i - ((ts.take i).map dropR).length = 0 := by simp; omega
  rw [e2]; simp [nth]
set_option maxRecDepth 100000 in
set_option maxHeartbeats 4000000 in
theorem drop_any (A : Option Addr) (cap : Nat) (ts : List Rc) (w : World) (hT : RecsAt w A ts) (hA : A = none → cap = 0) :
    Calls Try.prog 17 #[.slice A ts.length cap] w fun e W' => ∃ va vc, e = .returned (.tuple #[.slice va (dropL ts).length vc, .int .i64 (chkI ts)]) ∧ RowR W' w.heap.size va (dropL ts).length vc (dropL ts) ∧ Below w.heap.size w W' := by
  cases hc : okB ts with
  | false =>
    have HS : Hid (dropL ts = []) := by unfold Hid dropL; rw [hc]; rfl
    have c1 := check_no A cap ts w hT hc
    rw [chk_no hc]
    clear hc hT hA
    go_enter Try.func17, Try.ntmps17
    go_wp2_with fail
    refine c1.mono ?_
    rintro e w1 ⟨rfl, hB1⟩
    go_wp2_with fail
    go_ret2
    rw [HS.out]
    exact ⟨none, 0, rfl, RowR.nil _ _, hB1⟩
  | true =>
    have HS : Hid (dropL ts = ts.map dropR) := by unfold Hid dropL; rw [hc]; rfl
    have c1 := check_ok A cap ts w hT hc
    have hlen := (okB_iff.1 hc).1
    have HT : Hid (RecsAt w A ts ∧ (A = none → cap = 0)) := ⟨hT, hA⟩
    rw [chk_yes hc]
    clear hc hT hA
    go_enter Try.func17, Try.ntmps17
    go_wp2_with fail
    refine c1.mono ?_
    rintro e w1 ⟨rfl, hB1⟩
    have c2 := clone_any A cap ts w1 (HT.out.1.later hB1) HT.out.2 (by omega)
    clear c1
    go_wp2_with fail
    refine c2.mono ?_
    rintro e w2 ⟨va, vc, rfl, hR2, hB2⟩
    have HR0 : Hid (RowR w2 w.heap.size va ts.length vc ts) := hR2.mono hB1.size
    have HB0 : Hid (Below w.heap.size w w2) := Below.on hB1 hB2
    obtain ⟨n, hn⟩ : ∃ n, ts.length = n := ⟨_, rfl⟩
    have HN : Hid (ts.length = n) := hn
    rw [hn] at HR0 hlen ⊢
    clear c2 hB1 hB2 hR2 hn
    go_wp2_with fail
    go_loopw [16] (fun vi wr => ∃ (i : Nat), i ≤ n ∧ vi = .int .i64 i ∧ Hid (RowR wr w.heap.size va n vc ((ts.take i).map dropR ++ ts.drop i)) ∧ Hid (Below w.heap.size w wr))
      (fun vi _ => n - (intOf vi).toNat)
    case atStart => exact ⟨0, Nat.zero_le _, rfl, by simpa [Hid] using HR0.out, HB0.out⟩
    case round =>
      obtain ⟨i, hi, rfl, HR, HB⟩ := hrel
      by_cases hlt : i < n
      · obtain ⟨g, rfl, hg1, hg2⟩ := row_some HR.out (by omega)
        have hi' : i < ts.length := by rw [HN.out]; exact hlt
        have e0 := drop_nth hi'
        obtain ⟨x, hx⟩ : ∃ x, nth ts i = x := ⟨_, rfl⟩
        have hl0 := HR.out.len
        have r1 := row_set HR.out i 5 hlt (by omega) (.bool false) ⟨x.f, x.t, x.fin, x.sent, x.tx, false, x.lo, x.ag, x.gv, x.ga, x.fa, x.idl⟩ (by rw [e0, hx]; rfl)
        have r2 := row_set r1 i 6 hlt (by omega) (.bool true) ⟨x.f, x.t, x.fin, x.sent, x.tx, false, true, x.ag, x.gv, x.ga, x.fa, x.idl⟩ (by rw [nth_set_self (by omega)]; rfl)
        have r3 := row_set r2 i 7 hlt (by omega) (.bool false) ⟨x.f, x.t, x.fin, x.sent, x.tx, false, true, false, x.gv, x.ga, x.fa, x.idl⟩ (by rw [nth_set_self (by simp; omega)]; rfl)
        have HR3 : Hid (RowR (((wr.setCell ⟨g, i * 12 + 5, none⟩ (.bool false)).setCell ⟨g, i * 12 + 6, none⟩ (.bool true)).setCell ⟨g, i * 12 + 7, none⟩ (.bool false)) w.heap.size (some ⟨g, 0, none⟩) n vc ((ts.take (i + 1)).map dropR ++ ts.drop (i + 1))) := by
          unfold Hid
          rw [List.set_set, List.set_set, drop_step hi' _ (by rw [hx]; rfl)] at r3
          exact r3
        have HB3 : Hid (Below w.heap.size w (((wr.setCell ⟨g, i * 12 + 5, none⟩ (.bool false)).setCell ⟨g, i * 12 + 6, none⟩ (.bool true)).setCell ⟨g, i * 12 + 7, none⟩ (.bool false))) := below_set (below_set (below_set HB.out hg1 _ _) hg1 _ _) hg1 _ _
        have f1 := row_frozen HR.out (i * 12 + 5)
        have f2 := row_frozen r1 (i * 12 + 6)
        have f3 := row_frozen r2 (i * 12 + 7)
        have k5 := (row_cells HR.out i hlt).out.2.2.2.2.2.1
        have k6 := (row_cells r1 i hlt).out.2.2.2.2.2.2.1
        have k7 := (row_cells r2 i hlt).out.2.2.2.2.2.2.2.1
        clear r1 r2 r3 HR HB e0 hl0 hx
        go_wp2_with fail
        go_roundw
        case rel => exact ⟨i + 1, by omega, by go_num, HR3.out, HB3.out⟩
        case measure => simp [intOf]; omega
      · obtain rfl : i = n := by omega
        have HE : Hid ((ts.take i).map dropR ++ ts.drop i = ts.map dropR ∧ (ts.map dropR).length = i) := by
          unfold Hid
          rw [← HN.out, List.take_length, List.drop_length]; simp
        go_wp2_with fail
        go_ret2
        rw [HS.out, HE.out.2]
        refine ⟨va, vc, rfl, ?_, HB.out⟩
        rw [← HE.out.1]; exact HR.out
end Go.Proofs.Ytokiklaffbdomaa
