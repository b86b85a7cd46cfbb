/- The contract of part, whatever the test. -/
import Derived.Test.YtokiklaffbdomaaApp
namespace Go.Proofs.Ytokiklaffbdomaa
open Go.ChangeShapes Go.WideShapes Go.ChangeAt Go.RowKit Go.Shelf
set_option linter.unusedVariables false
attribute [local go_sem] Oper.semAt_some

theorem filter_take {p : Rc → Bool} {ts : List Rc} {i : Nat} (h : i < ts.length) : (ts.take (i + 1)).filter p = (ts.take i).filter p ++ (if p (nth ts i) = true then [nth ts i] else []) := by
  rw [take_nth h, List.filter_append]
  congr 1
  simp only [List.filter_cons, List.filter_nil]
set_option maxRecDepth 100000 in
set_option maxHeartbeats 4000000 in
theorem part_any (g : Nat) (cb : Array Value) (p : Rc → Bool) (A : Option Addr) (cap : Nat) (ts : List Rc) (w : World) (hT : RecsAt w A ts) (hb : ts.length * 80 ≤ 140737488355328)
    (eg : ∀ args w, (callFunc g args).run Try.prog w = .ok (.enter g args) w)
    (ht : ∀ x W, Below w.heap.size w W → Calls Try.prog g (#[.agg #[.int .i64 x.f, .int .i64 x.t, .bool x.fin, .int .i64 x.sent, .int .i64 x.tx, .bool x.sk, .bool x.lo, .bool x.ag, .int .i64 x.gv, .int .i64 x.ga, .int .i64 x.fa, .bool x.idl]] ++ cb) W fun e W' => e = .returned (.bool (p x)) ∧ Below W.heap.size W W') :
    Calls Try.prog 39 #[.slice A ts.length cap, .func (.func g) #[] cb] w fun e W' => ∃ va vc vb vd, e = .returned (.tuple #[.slice va (ts.filter p).length vc, .slice vb (ts.filter (fun x => !p x)).length vd]) ∧
      RowR W' w.heap.size va (ts.filter p).length vc (ts.filter p) ∧ RowR W' w.heap.size vb (ts.filter (fun x => !p x)).length vd (ts.filter (fun x => !p x)) ∧ (∀ k, lies va k → ¬ lies vb k) ∧ Below w.heap.size w W' := by
  have hml : ts.length ≤ 9223372036854775807 := hT.1
  have HT : Hid (RecsAt w A ts) := hT
  have HP : Hid (∀ x W, Below w.heap.size w W → Calls Try.prog g (#[.agg #[.int .i64 x.f, .int .i64 x.t, .bool x.fin, .int .i64 x.sent, .int .i64 x.tx, .bool x.sk, .bool x.lo, .bool x.ag, .int .i64 x.gv, .int .i64 x.ga, .int .i64 x.fa, .bool x.idl]] ++ cb) W fun e W' => e = .returned (.bool (p x)) ∧ Below W.heap.size W W') := ht
  clear hT ht
  go_enter Try.func39, Try.ntmps39
  go_wp2_with fail
  go_loopw [4, 5, 10] (fun v4 v5 vi wr => ∃ (i n m : Nat) (va : Option Addr) (vc : Nat) (vb : Option Addr) (vd : Nat), i ≤ ts.length ∧ n ≤ i ∧ m ≤ i ∧ vi = .int .i64 i ∧ v4 = .slice va n vc ∧ v5 = .slice vb m vd ∧ Hid (RowR wr w.heap.size va n vc ((ts.take i).filter p)) ∧ Hid (RowR wr w.heap.size vb m vd ((ts.take i).filter (fun x => !p x))) ∧ Hid (∀ k, lies va k → ¬ lies vb k) ∧ Hid (Below w.heap.size w wr))
    (fun _ _ vi _ => ts.length - (intOf vi).toNat)
  case atStart => exact ⟨0, 0, 0, none, 0, none, 0, Nat.zero_le _, Nat.zero_le _, Nat.zero_le _, rfl, rfl, rfl, RowR.nil _ _, RowR.nil _ _, (fun k h => by cases h), Below.refl _ _⟩
  case round =>
    obtain ⟨i, n, m, va, vc, vb, vd, hi, hn, hm, rfl, rfl, rfl, HA, HB, HD, HW⟩ := hrel
    by_cases hlt : i < ts.length
    · obtain ⟨b, o, rfl, hc0⟩ := HT.out.2 i hlt
      have hc := hc0.below HW.out hc0.lt
      have HF := filter_take (p := p) hlt
      have HG := filter_take (p := fun x => !p x) hlt
      have HX : Hid (Box (wr.alloc (.cells (rv (nth ts i)).toArray 28)) wr.heap.size 28 (rv (nth ts i))) := Box.new wr 28 _
      have c := HP.out (nth ts i) (wr.alloc (.cells #[.int .i64 (nth ts i).f, .int .i64 (nth ts i).t, .bool (nth ts i).fin, .int .i64 (nth ts i).sent, .int .i64 (nth ts i).tx, .bool (nth ts i).sk, .bool (nth ts i).lo, .bool (nth ts i).ag, .int .i64 (nth ts i).gv, .int .i64 (nth ts i).ga, .int .i64 (nth ts i).fa, .bool (nth ts i).idl] 28)) (below_more HW.out _)
      obtain ⟨x, hx⟩ : ∃ x, nth ts i = x := ⟨_, rfl⟩
      rw [hx] at hc HX HF HG c
      obtain ⟨k0, k1, k2, k3, k4, k5, k6, k7, k8, k9, k10, k11⟩ := hc.out
      cases hp : p x with
      | true =>
        rw [hp] at c
        have hF : Hid ((ts.take (i + 1)).filter p = (ts.take i).filter p ++ [x]) := by rw [HF, hp]; rfl
        have hG : Hid ((ts.take (i + 1)).filter (fun x => !p x) = (ts.take i).filter (fun x => !p x)) := by unfold Hid; rw [HG, hp]; simp
        clear hc hc0 hx HF HG hp
        go_wp2_with fail
        refine c.mono ?_
        rintro e W1 ⟨rfl, hB1⟩
        have hR0 : RowR (W1.alloc (.cells (rv x).toArray 28)) w.heap.size va n vc ((ts.take i).filter p) := ((HA.out.alloc _).later hB1).alloc _
        have hS0 : RowR (W1.alloc (.cells (rv x).toArray 28)) w.heap.size vb m vd ((ts.take i).filter (fun x => !p x)) := ((HB.out.alloc _).later hB1).alloc _
        have hB2 : Below w.heap.size w (W1.alloc (.cells (rv x).toArray 28)) := below_more (Below.on (below_more HW.out _) hB1) _
        obtain ⟨va', vc', w', hr, hR, hg, hl⟩ := app_one (W1.alloc (.cells (rv x).toArray 28)) w.heap.size va n vc _ hR0 hB2.size W1.heap.size x (Box.new W1 28 _) (by omega)
        have HRN : Hid ((Builtin.append_ #[22, 22] 22 #[.slice va n vc, .slice (some ⟨W1.heap.size, 0, none⟩) 1 1]).run Try.prog (W1.alloc (.cells #[.int .i64 x.f, .int .i64 x.t, .bool x.fin, .int .i64 x.sent, .int .i64 x.tx, .bool x.sk, .bool x.lo, .bool x.ag, .int .i64 x.gv, .int .i64 x.ga, .int .i64 x.fa, .bool x.idl] 28)) = .ok (.slice va' (n + 1) vc') w') := hr
        have HA1 : Hid (RowR w' w.heap.size va' (n + 1) vc' ((ts.take (i + 1)).filter p)) := by unfold Hid; rw [hF.out]; exact hR
        have HB1 : Hid (RowR w' w.heap.size vb m vd ((ts.take (i + 1)).filter (fun x => !p x))) := by
          unfold Hid; rw [hG.out]; exact hS0.aside hR0 hg HD.out
        have HD1 : Hid (∀ k, lies va' k → ¬ lies vb k) := fun k h1 h2 => by
          rcases hl k h1 with h | h
          · exact HD.out k h h2
          · have := (hS0.ge (k := k) h2).2; omega
        have HW1 : Hid (Below w.heap.size w w') := below_append hB2 hB2.size hR0 hg
        obtain ⟨x0, x1, x2, x3, x4, x5, x6, x7, x8, x9, x10, x11⟩ := (HX.out.later hB1).rc
        clear hr hR hg hl hR0 hS0 hB2 hB1 HX HW HA HB HD k0 k1 k2 k3 k4 k5 k6 k7 k8 k9 k10 k11 c hF hG
        go_wp2_with (at_builtin; refine Lib.wpList_append_run (W1.alloc (.cells #[.int .i64 x.f, .int .i64 x.t, .bool x.fin, .int .i64 x.sent, .int .i64 x.tx, .bool x.sk, .bool x.lo, .bool x.ag, .int .i64 x.gv, .int .i64 x.ga, .int .i64 x.fa, .bool x.idl] 28)) rfl (.tmp 17) (.tmp 19) 22 22 rfl (.slice va n vc) (.slice (some ⟨W1.heap.size, 0, none⟩) 1 1) rfl rfl (.slice va' (n + 1) vc') w' HRN.out ?_)
        go_roundw
        case rel => exact ⟨i + 1, n + 1, m, va', vc', vb, vd, by omega, by omega, by omega, by go_num, rfl, rfl, HA1.out, HB1.out, HD1.out, HW1.out⟩
        case measure => simp [intOf]; omega
      | false =>
        rw [hp] at c
        have hF : Hid ((ts.take (i + 1)).filter p = (ts.take i).filter p) := by unfold Hid; rw [HF, hp]; simp
        have hG : Hid ((ts.take (i + 1)).filter (fun x => !p x) = (ts.take i).filter (fun x => !p x) ++ [x]) := by rw [HG, hp]; rfl
        clear hc hc0 hx HF HG hp
        go_wp2_with fail
        refine c.mono ?_
        rintro e W1 ⟨rfl, hB1⟩
        have hR0 : RowR (W1.alloc (.cells (rv x).toArray 28)) w.heap.size vb m vd ((ts.take i).filter (fun x => !p x)) := ((HB.out.alloc _).later hB1).alloc _
        have hS0 : RowR (W1.alloc (.cells (rv x).toArray 28)) w.heap.size va n vc ((ts.take i).filter p) := ((HA.out.alloc _).later hB1).alloc _
        have hB2 : Below w.heap.size w (W1.alloc (.cells (rv x).toArray 28)) := below_more (Below.on (below_more HW.out _) hB1) _
        obtain ⟨va', vc', w', hr, hR, hg, hl⟩ := app_one (W1.alloc (.cells (rv x).toArray 28)) w.heap.size vb m vd _ hR0 hB2.size W1.heap.size x (Box.new W1 28 _) (by omega)
        have HRN : Hid ((Builtin.append_ #[22, 22] 22 #[.slice vb m vd, .slice (some ⟨W1.heap.size, 0, none⟩) 1 1]).run Try.prog (W1.alloc (.cells #[.int .i64 x.f, .int .i64 x.t, .bool x.fin, .int .i64 x.sent, .int .i64 x.tx, .bool x.sk, .bool x.lo, .bool x.ag, .int .i64 x.gv, .int .i64 x.ga, .int .i64 x.fa, .bool x.idl] 28)) = .ok (.slice va' (m + 1) vc') w') := hr
        have HA1 : Hid (RowR w' w.heap.size va' (m + 1) vc' ((ts.take (i + 1)).filter (fun x => !p x))) := by unfold Hid; rw [hG.out]; exact hR
        have HB1 : Hid (RowR w' w.heap.size va n vc ((ts.take (i + 1)).filter p)) := by
          unfold Hid; rw [hF.out]; exact hS0.aside hR0 hg (fun k h1 h2 => HD.out k h2 h1)
        have HD1 : Hid (∀ k, lies va' k → ¬ lies va k) := fun k h1 h2 => by
          rcases hl k h1 with h | h
          · exact (fun k h1 h2 => HD.out k h2 h1) k h h2
          · have := (hS0.ge (k := k) h2).2; omega
        have HW1 : Hid (Below w.heap.size w w') := below_append hB2 hB2.size hR0 hg
        obtain ⟨x0, x1, x2, x3, x4, x5, x6, x7, x8, x9, x10, x11⟩ := (HX.out.later hB1).rc
        clear hr hR hg hl hR0 hS0 hB2 hB1 HX HW HA HB HD k0 k1 k2 k3 k4 k5 k6 k7 k8 k9 k10 k11 c hF hG
        go_wp2_with (at_builtin; refine Lib.wpList_append_run (W1.alloc (.cells #[.int .i64 x.f, .int .i64 x.t, .bool x.fin, .int .i64 x.sent, .int .i64 x.tx, .bool x.sk, .bool x.lo, .bool x.ag, .int .i64 x.gv, .int .i64 x.ga, .int .i64 x.fa, .bool x.idl] 28)) rfl (.tmp 21) (.tmp 23) 22 22 rfl (.slice vb m vd) (.slice (some ⟨W1.heap.size, 0, none⟩) 1 1) rfl rfl (.slice va' (m + 1) vc') w' HRN.out ?_)
        go_roundw
        case rel => exact ⟨i + 1, n, m + 1, va, vc, va', vc', by omega, by omega, by omega, by go_num, rfl, rfl, HB1.out, HA1.out, (fun k h1 h2 => HD1.out k h2 h1), HW1.out⟩
        case measure => simp [intOf]; omega
    · obtain rfl : i = ts.length := by omega
      rw [List.take_length] at HA HB
      have e1 := HA.out.len
      have e2 := HB.out.len
      have H1 : Hid ((ts.filter p).length = n) := e1
      have H2 : Hid ((ts.filter (fun x => !p x)).length = m) := e2
      clear e1 e2
      go_wp2_with fail
      go_ret2
      rw [H1.out, H2.out]
      exact ⟨va, vc, vb, vd, rfl, HA.out, HB.out, HD.out, HW.out⟩
end Go.Proofs.Ytokiklaffbdomaa
