/- The contract of Send. -/
import Derived.Test.YtokiklaffbdomaaStore
namespace Go.Proofs.Ytokiklaffbdomaa
open Go.ChangeShapes Go.WideShapes Go.ChangeAt Go.RowKit Go.Shelf
set_option linter.unusedVariables false
attribute [local go_sem] Oper.semAt_some

def sendL (ts : List Rc) (x : Rc) : List Rc := if okB (ts ++ [x]) = true then ts ++ [x] else []
set_option maxRecDepth 100000 in
set_option maxHeartbeats 4000000 in
theorem send_any (A : Option Addr) (cap : Nat) (ts : List Rc) (x : Rc) (w : World) (hT : RecsAt w A ts) (hA : A = none → cap = 0) (hb : (ts.length + 1) * 80 ≤ 140737488355328) :
    Calls Try.prog 14 #[.slice A ts.length cap, .agg #[.int .i64 x.f, .int .i64 x.t, .bool x.fin, .int .i64 x.sent, .int .i64 x.tx, .bool x.sk, .bool x.lo, .bool x.ag, .int .i64 x.gv, .int .i64 x.ga, .int .i64 x.fa, .bool x.idl]] w fun e W' => ∃ va vc, e = .returned (.tuple #[.slice va (sendL ts x).length vc, .int .i64 (chkI (ts ++ [x]))]) ∧ RowR W' w.heap.size va (sendL ts x).length vc (sendL ts x) ∧ Below w.heap.size w W' := by
  have hB1 : Below w.heap.size w (w.alloc (.cells #[.int .i64 x.f, .int .i64 x.t, .bool x.fin, .int .i64 x.sent, .int .i64 x.tx, .bool x.sk, .bool x.lo, .bool x.ag, .int .i64 x.gv, .int .i64 x.ga, .int .i64 x.fa, .bool x.idl] 28)) := below_new w _
  have hB2 : Below w.heap.size w ((w.alloc (.cells #[.int .i64 x.f, .int .i64 x.t, .bool x.fin, .int .i64 x.sent, .int .i64 x.tx, .bool x.sk, .bool x.lo, .bool x.ag, .int .i64 x.gv, .int .i64 x.ga, .int .i64 x.fa, .bool x.idl] 28)).alloc (.cells #[.int .i64 x.f, .int .i64 x.t, .bool x.fin, .int .i64 x.sent, .int .i64 x.tx, .bool x.sk, .bool x.lo, .bool x.ag, .int .i64 x.gv, .int .i64 x.ga, .int .i64 x.fa, .bool x.idl] 28)) := below_more hB1 _
  have hB3 : Below w.heap.size w (((w.alloc (.cells #[.int .i64 x.f, .int .i64 x.t, .bool x.fin, .int .i64 x.sent, .int .i64 x.tx, .bool x.sk, .bool x.lo, .bool x.ag, .int .i64 x.gv, .int .i64 x.ga, .int .i64 x.fa, .bool x.idl] 28)).alloc (.cells #[.int .i64 x.f, .int .i64 x.t, .bool x.fin, .int .i64 x.sent, .int .i64 x.tx, .bool x.sk, .bool x.lo, .bool x.ag, .int .i64 x.gv, .int .i64 x.ga, .int .i64 x.fa, .bool x.idl] 28)).alloc (.cells #[.slice A ts.length cap, .slice (some ⟨w.heap.size + 1, 0, none⟩) 1 1] 22)) := below_more hB2 _
  have hN := recs_new (w.alloc (.cells #[.int .i64 x.f, .int .i64 x.t, .bool x.fin, .int .i64 x.sent, .int .i64 x.tx, .bool x.sk, .bool x.lo, .bool x.ag, .int .i64 x.gv, .int .i64 x.ga, .int .i64 x.fa, .bool x.idl] 28)) [x] (by simp [maxLen])
  have hN2 : RecsAt (((w.alloc (.cells #[.int .i64 x.f, .int .i64 x.t, .bool x.fin, .int .i64 x.sent, .int .i64 x.tx, .bool x.sk, .bool x.lo, .bool x.ag, .int .i64 x.gv, .int .i64 x.ga, .int .i64 x.fa, .bool x.idl] 28)).alloc (.cells #[.int .i64 x.f, .int .i64 x.t, .bool x.fin, .int .i64 x.sent, .int .i64 x.tx, .bool x.sk, .bool x.lo, .bool x.ag, .int .i64 x.gv, .int .i64 x.ga, .int .i64 x.fa, .bool x.idl] 28)).alloc (.cells #[.slice A ts.length cap, .slice (some ⟨w.heap.size + 1, 0, none⟩) 1 1] 22)) (some ⟨w.heap.size + 1, 0, none⟩) [x] := by
    rw [World.size_alloc] at hN; exact hN.alloc _
  have hcat : cat (fun j => if j = 0 then ts else [x]) 2 = ts ++ [x] := by simp [cat, List.range_succ]
  have cc := concat_any 2 (w.heap.size + 1 + 1) (fun j => if j = 0 then A else some ⟨w.heap.size + 1, 0, none⟩) (fun j => if j = 0 then cap else 1) (fun j => if j = 0 then ts else [x]) (((w.alloc (.cells #[.int .i64 x.f, .int .i64 x.t, .bool x.fin, .int .i64 x.sent, .int .i64 x.tx, .bool x.sk, .bool x.lo, .bool x.ag, .int .i64 x.gv, .int .i64 x.ga, .int .i64 x.fa, .bool x.idl] 28)).alloc (.cells #[.int .i64 x.f, .int .i64 x.t, .bool x.fin, .int .i64 x.sent, .int .i64 x.tx, .bool x.sk, .bool x.lo, .bool x.ag, .int .i64 x.gv, .int .i64 x.ga, .int .i64 x.fa, .bool x.idl] 28)).alloc (.cells #[.slice A ts.length cap, .slice (some ⟨w.heap.size + 1, 0, none⟩) 1 1] 22)) (by omega)
    (fun j hj => by
      have hbx := Box.new1 (w.alloc (.cells #[.int .i64 x.f, .int .i64 x.t, .bool x.fin, .int .i64 x.sent, .int .i64 x.tx, .bool x.sk, .bool x.lo, .bool x.ag, .int .i64 x.gv, .int .i64 x.ga, .int .i64 x.fa, .bool x.idl] 28)) (.cells #[.int .i64 x.f, .int .i64 x.t, .bool x.fin, .int .i64 x.sent, .int .i64 x.tx, .bool x.sk, .bool x.lo, .bool x.ag, .int .i64 x.gv, .int .i64 x.ga, .int .i64 x.fa, .bool x.idl] 28) 22 [.slice A ts.length cap, .slice (some ⟨w.heap.size + 1, 0, none⟩) 1 1]
      rw [World.size_alloc] at hbx
      rcases (show j = 0 ∨ j = 1 by omega) with rfl | rfl
      · exact hbx.cell 0 rfl
      · exact hbx.cell 1 rfl)
    (fun j hj => by
      rcases (show j = 0 ∨ j = 1 by omega) with rfl | rfl
      · exact hT.later hB3
      · exact hN2)
    (fun j hj => by
      rcases (show j = 0 ∨ j = 1 by omega) with rfl | rfl
      · exact hA
      · intro h; cases h)
    (by rw [hcat]; simp) (by rw [hcat]; simpa using hb)
  rw [hcat] at cc
  obtain ⟨n1, hn1⟩ : ∃ n1, (ts ++ [x]).length = n1 := ⟨_, rfl⟩
  have HB3 : Hid (Below w.heap.size w (((w.alloc (.cells #[.int .i64 x.f, .int .i64 x.t, .bool x.fin, .int .i64 x.sent, .int .i64 x.tx, .bool x.sk, .bool x.lo, .bool x.ag, .int .i64 x.gv, .int .i64 x.ga, .int .i64 x.fa, .bool x.idl] 28)).alloc (.cells #[.int .i64 x.f, .int .i64 x.t, .bool x.fin, .int .i64 x.sent, .int .i64 x.tx, .bool x.sk, .bool x.lo, .bool x.ag, .int .i64 x.gv, .int .i64 x.ga, .int .i64 x.fa, .bool x.idl] 28)).alloc (.cells #[.slice A ts.length cap, .slice (some ⟨w.heap.size + 1, 0, none⟩) 1 1] 22))) := hB3
  have HN1 : Hid ((ts ++ [x]).length = n1) := hn1
  rw [hn1] at cc
  clear hB1 hB2 hB3 hN hN2 hcat hT hA hb hn1
  cases hc : okB (ts ++ [x]) with
  | false =>
    have HS : Hid (sendL ts x = []) := by unfold Hid sendL; rw [hc]; rfl
    have HC : Hid (okB (ts ++ [x]) = false) := hc
    rw [chk_no hc]
    clear hc
    go_enter Try.func14, Try.ntmps14
    go_wp2_with fail
    refine cc.mono ?_
    rintro e w1 ⟨va, vc, rfl, hR1, hB1⟩
    have c2 := check_no va vc (ts ++ [x]) w1 hR1.recs HC.out
    rw [HN1.out] at c2
    clear cc
    go_wp2_with fail
    refine c2.mono ?_
    rintro e w2 ⟨rfl, hB2⟩
    go_wp2_with fail
    go_ret2
    rw [HS.out]
    exact ⟨none, 0, rfl, RowR.nil _ _, Below.on (Below.on HB3.out hB1) hB2⟩
  | true =>
    have HS : Hid (sendL ts x = ts ++ [x]) := by unfold Hid sendL; rw [hc]; rfl
    have HC : Hid (okB (ts ++ [x]) = true) := hc
    rw [chk_yes hc]
    clear hc
    go_enter Try.func14, Try.ntmps14
    go_wp2_with fail
    refine cc.mono ?_
    rintro e w1 ⟨va, vc, rfl, hR1, hB1⟩
    have c2 := check_ok va vc (ts ++ [x]) w1 hR1.recs HC.out
    rw [HN1.out] at c2
    clear cc
    go_wp2_with fail
    refine c2.mono ?_
    rintro e w2 ⟨rfl, hB2⟩
    go_wp2_with fail
    go_ret2
    rw [HS.out, HN1.out]
    exact ⟨va, vc, rfl, (hR1.later hB2).mono HB3.out.size, Below.on (Below.on HB3.out hB1) hB2⟩
end Go.Proofs.Ytokiklaffbdomaa
