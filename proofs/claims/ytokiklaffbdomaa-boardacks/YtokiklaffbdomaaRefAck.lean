/- The contract of the document's Ack. -/
import Derived.Test.YtokiklaffbdomaaRefMv
import Derived.Test.YtokiklaffbdomaaWholeP
namespace Go.Proofs.Ytokiklaffbdomaa
open Go.ChangeShapes Go.WideShapes Go.ChangeAt Go.RowKit Go.Shelf
set_option linter.unusedVariables false
attribute [local go_sem] Oper.semAt_some

theorem cut_same {una : Int} {x : Rc} (h : una ≤ x.f) : cutR una x = x := by
  unfold cutR
  rw [show max x.f una = x.f from by omega]
theorem left_map {ts : List Rc} (h : okB ts = true) (una : Int) : (ts.filter (fun x => !goneB una x)).map (cutR una) = headMax una (ts.filter (fun x => !goneB una x)) := by
  obtain ⟨k, h1, h2, h3, h4⟩ := gone_at h una
  rw [h3]
  cases hd : ts.drop k with
  | nil => rfl
  | cons a r =>
    rw [List.map_cons, headMax]
    congr 1
    have hr : ∀ y ∈ r, una ≤ y.f := fun y hy => by
      obtain ⟨j, hj, rfl⟩ := List.mem_iff_getElem.1 hy
      have hlen : (ts.drop k).length = r.length + 1 := by rw [hd]; rfl
      have hkj : k + (j + 1) < ts.length := by simp at hlen; omega
      have e : nth ts (k + (j + 1)) = r[j] := by
        rw [← nth_drop, hd]; simp [nth, hj]
      have h5 := okAt_iff.1 ((okB_iff.1 h).2 (k + (j + 1)) hkj)
      have h6 : ¬ (nth ts (k + j)).t ≤ una := fun e' => by have := (h4 (k + j) (by omega)).1 e'; omega
      rcases h5.2 with e' | e'
      · omega
      · have := e'.1
        rw [show k + (j + 1) - 1 = k + j from by omega, e] at this
        omega
    clear hd h1 h2 h3 h4
    induction r with
    | nil => rfl
    | cons y r ih =>
      rw [List.map_cons, cut_same (hr y List.mem_cons_self), ih (fun z hz => hr z (List.mem_cons_of_mem _ hz))]
set_option maxRecDepth 100000 in
set_option maxHeartbeats 4000000 in
theorem refAck_go (A : Option Addr) (cap : Nat) (ts : List Rc) (una : Int) (w : World) (hT : RecsAt w A ts) (hok : okB ts = true) (hbe : beyB ts una = false) :
    Calls Try.prog 22 #[.slice A ts.length cap, .int .i64 una] w fun e W' => AckSays ts una w e W' := by
  have hml := (okB_iff.1 hok).1
  have HS : Hid (leftL ts una = (ts.filter (fun x => !goneB una x)).map (cutR una) ∧ goneL ts una = ts.filter (goneB una) ∧ ackE ts una = 0) := by unfold Hid leftL goneL ackE; rw [hok, hbe, left_map hok]; exact ⟨rfl, rfl, rfl⟩
  have c1 := refCheck_ok A cap ts w hT hok
  obtain ⟨n, hn⟩ : ∃ n, ts.length = n := ⟨_, rfl⟩
  have HN : Hid (ts.length = n ∧ RecsAt w A ts) := ⟨hn, hT⟩
  have H4 : Hid (n = 0 ∨ ∃ m b o y, n = m + 1 ∧ A = some ⟨b, o, none⟩ ∧ RecCells w b (o + m * 12) y ∧ una ≤ y.t) := by
    cases n with
    | zero => exact .inl rfl
    | succ m =>
      obtain ⟨b, o, e, hl⟩ := hT.2 m (by omega)
      refine .inr ⟨m, b, o, _, rfl, e, hl, ?_⟩
      have h1 := of_decide_eq_false hbe
      rw [hn] at h1
      simp at h1
      omega
  rw [hn] at c1 hml ⊢
  clear hok hbe hT hn
  go_enter Try.func22, Try.ntmps22
  go_wp2_with fail
  refine c1.mono ?_
  rintro e w1 ⟨rfl, hB1⟩
  have HB1 : Hid (Below w.heap.size w w1) := hB1
  clear c1 hB1
  go_upto_region 3 with fail
  go_cut [27] (fun v wx => v = .bool false ∧ Hid (Below w.heap.size w wx))
  case first =>
    rcases H4.out with rfl | ⟨m, b, o, y, rfl, rfl, hl, hle⟩
    · go_wp2_with fail
      go_meet
      exact ⟨rfl, HB1.out⟩
    · have hl1 := (hl.below HB1.out hl.lt).out.2.1
      have hd : decide (y.t < una) = false := decide_eq_false (by omega)
      have hwm : IntKind.i64.wrap (m : Int) = m := by simp [IntKind.wrap, IntKind.bits, IntKind.signed]; omega
      have hm1 : m < m + 1 := by omega
      clear hl
      go_wp2_with fail
      go_meet
      exact ⟨by first | rfl | rw [hd], HB1.out⟩
  case rest =>
    obtain ⟨rfl, HB2⟩ := hcut
    clear HB1 H4
    go_wp2_with fail
    go_loopw [7, 8, 9] (fun v7 v8 vi wr => ∃ (i a m : Nat) (va : Option Addr) (vc : Nat) (vb : Option Addr) (vd : Nat), i ≤ n ∧ a ≤ i ∧ m ≤ i ∧ vi = .int .i64 i ∧ v7 = .slice va a vc ∧ v8 = .slice vb m vd ∧ Hid (RowR wr w.heap.size va a vc (((ts.take i).filter (fun x => !goneB una x)).map (cutR una))) ∧ Hid (RowR wr w.heap.size vb m vd ((ts.take i).filter (goneB una))) ∧ Hid (∀ k, lies va k → ¬ lies vb k) ∧ Hid (Below w.heap.size w wr))
      (fun _ _ vi _ => n - (intOf vi).toNat)
    case atStart => exact ⟨0, 0, 0, none, 0, none, 0, Nat.zero_le _, Nat.zero_le _, Nat.zero_le _, rfl, rfl, rfl, RowR.nil _ _, RowR.nil _ _, (fun k h => by cases h), HB2.out⟩
    case round =>
      obtain ⟨i, a, m, va, vc, vb, vd, hi, ha, hm, rfl, rfl, rfl, HA, HG, HD, HW⟩ := hrel
      by_cases hlt : i < n
      · have hlt0 : i < ts.length := by rw [HN.out.1]; exact hlt
        obtain ⟨b, o, rfl, hc0⟩ := (HN.out.2.later HW.out).2 i hlt0
        have HF := filter_take (p := goneB una) hlt0
        have HH := filter_take (p := fun x => !goneB una x) hlt0
        obtain ⟨x, hx⟩ : ∃ x, nth ts i = x := ⟨_, rfl⟩
        rw [hx] at hc0 HF HH
        obtain ⟨k0, k1, k2, k3, k4, k5, k6, k7, k8, k9, k10, k11⟩ := hc0.out
        have hlt' : (i : Int) < (n : Int) := by omega
        by_cases hp : x.t ≤ una
        · have hpb : goneB una x = true := decide_eq_true hp
          have hF : Hid ((ts.take (i + 1)).filter (goneB una) = (ts.take i).filter (goneB una) ++ [x]) := by rw [HF, hpb]; rfl
          have hG : Hid ((ts.take (i + 1)).filter (fun x => !goneB una x) = (ts.take i).filter (fun x => !goneB una x)) := by unfold Hid; rw [HH, hpb]; simp
          have HX : Hid (Box (wr.alloc (.cells (rv x).toArray 28)) wr.heap.size 28 (rv x)) := Box.new wr 28 _
          have hR0 : RowR ((wr.alloc (.cells (rv x).toArray 28)).alloc (.cells (rv x).toArray 28)) w.heap.size vb m vd ((ts.take i).filter (goneB una)) := (HG.out.alloc _).alloc _
          have hS0 : RowR ((wr.alloc (.cells (rv x).toArray 28)).alloc (.cells (rv x).toArray 28)) w.heap.size va a vc (((ts.take i).filter (fun x => !goneB una x)).map (cutR una)) := (HA.out.alloc _).alloc _
          have hB2 : Below w.heap.size w ((wr.alloc (.cells (rv x).toArray 28)).alloc (.cells (rv x).toArray 28)) := below_more (below_more HW.out _) _
          obtain ⟨va', vc', w', hr, hR, hg, hl⟩ := app_one ((wr.alloc (.cells (rv x).toArray 28)).alloc (.cells (rv x).toArray 28)) w.heap.size vb m vd _ hR0 hB2.size (wr.heap.size + 1) x (Box.new1 wr _ 28 _) (by omega)
          have HRN : Hid ((Builtin.append_ #[22, 22] 22 #[.slice vb m vd, .slice (some ⟨wr.heap.size + 1, 0, none⟩) 1 1]).run Try.prog ((wr.alloc (.cells #[.int .i64 x.f, .int .i64 x.t, .bool x.fin, .int .i64 x.sent, .int .i64 x.tx, .bool x.sk, .bool x.lo, .bool x.ag, .int .i64 x.gv, .int .i64 x.ga, .int .i64 x.fa, .bool x.idl] 28)).alloc (.cells #[.int .i64 x.f, .int .i64 x.t, .bool x.fin, .int .i64 x.sent, .int .i64 x.tx, .bool x.sk, .bool x.lo, .bool x.ag, .int .i64 x.gv, .int .i64 x.ga, .int .i64 x.fa, .bool x.idl] 28)) = .ok (.slice va' (m + 1) vc') w') := hr
          have HA1 : Hid (RowR w' w.heap.size va' (m + 1) vc' ((ts.take (i + 1)).filter (goneB una))) := by unfold Hid; rw [hF.out]; exact hR
          have HB1 : Hid (RowR w' w.heap.size va a vc (((ts.take (i + 1)).filter (fun x => !goneB una x)).map (cutR una))) := by
            unfold Hid; rw [hG.out]; exact hS0.aside hR0 hg (fun k h1 h2 => HD.out k h2 h1)
          have HD1 : Hid (∀ k, lies va k → ¬ lies va' k) := fun k h2 h1 => by
            rcases hl k h1 with h | h
            · exact HD.out k h2 h
            · have := (hS0.ge (k := k) h2).2; omega
          have HW1 : Hid (Below w.heap.size w w') := below_append hB2 hB2.size hR0 hg
          clear hr hR hg hl hR0 hS0 hB2 HX HW HA HG HD hc0 hF hG HF HH hpb hx
          go_wp2_with (at_builtin; refine Lib.wpList_append_run ((wr.alloc (.cells #[.int .i64 x.f, .int .i64 x.t, .bool x.fin, .int .i64 x.sent, .int .i64 x.tx, .bool x.sk, .bool x.lo, .bool x.ag, .int .i64 x.gv, .int .i64 x.ga, .int .i64 x.fa, .bool x.idl] 28)).alloc (.cells #[.int .i64 x.f, .int .i64 x.t, .bool x.fin, .int .i64 x.sent, .int .i64 x.tx, .bool x.sk, .bool x.lo, .bool x.ag, .int .i64 x.gv, .int .i64 x.ga, .int .i64 x.fa, .bool x.idl] 28)) rfl (.tmp 42) (.tmp 44) 22 22 rfl (.slice vb m vd) (.slice (some ⟨wr.heap.size + 1, 0, none⟩) 1 1) rfl rfl (.slice va' (m + 1) vc') w' HRN.out ?_)
          go_roundw
          case rel => exact ⟨i + 1, a, m + 1, va, vc, va', vc', by omega, by omega, by omega, by go_num, rfl, rfl, HB1.out, HA1.out, HD1.out, HW1.out⟩
          case measure => simp [intOf]; omega
        · have hpb : goneB una x = false := decide_eq_false hp
          have hF : Hid ((ts.take (i + 1)).filter (goneB una) = (ts.take i).filter (goneB una)) := by unfold Hid; rw [HF, hpb]; simp
          have hG : Hid (((ts.take (i + 1)).filter (fun x => !goneB una x)).map (cutR una) = ((ts.take i).filter (fun x => !goneB una x)).map (cutR una) ++ [cutR una x]) := by unfold Hid; rw [HH, hpb, List.map_append]; rfl
          have hX1 : Box (wr.alloc (.cells (rv (cutR una x)).toArray 28)) wr.heap.size 28 (rv (cutR una x)) := Box.new wr 28 _
          have hBZ : Below w.heap.size w (wr.alloc (.cells (rv (cutR una x)).toArray 28)) := below_more HW.out _
          have rA := HA.out.alloc (.cells (rv (cutR una x)).toArray 28)
          have rG := HG.out.alloc (.cells (rv (cutR una x)).toArray 28)
          obtain ⟨Y, hY⟩ : ∃ Y, wr.alloc (.cells (rv (cutR una x)).toArray 28) = Y := ⟨_, rfl⟩
          rw [hY] at hX1 rA rG hBZ
          have hR0 := rA.alloc (.cells (rv (cutR una x)).toArray 28)
          have hS0 := rG.alloc (.cells (rv (cutR una x)).toArray 28)
          have hB2 := below_more hBZ (.cells (rv (cutR una x)).toArray 28)
          obtain ⟨va', vc', w', hr, hR, hg, hl⟩ := app_one (Y.alloc (.cells (rv (cutR una x)).toArray 28)) w.heap.size va a vc _ hR0 hB2.size Y.heap.size (cutR una x) (Box.new Y 28 _) (by omega)
          have HRN : Hid ((Builtin.append_ #[22, 22] 22 #[.slice va a vc, .slice (some ⟨Y.heap.size, 0, none⟩) 1 1]).run Try.prog (Y.alloc (.cells #[.int .i64 (max x.f una), .int .i64 x.t, .bool x.fin, .int .i64 x.sent, .int .i64 x.tx, .bool x.sk, .bool x.lo, .bool x.ag, .int .i64 x.gv, .int .i64 x.ga, .int .i64 x.fa, .bool x.idl] 28)) = .ok (.slice va' (a + 1) vc') w') := hr
          have HA1 : Hid (RowR w' w.heap.size va' (a + 1) vc' (((ts.take (i + 1)).filter (fun x => !goneB una x)).map (cutR una))) := by unfold Hid; rw [hG.out]; exact hR
          have HB1 : Hid (RowR w' w.heap.size vb m vd ((ts.take (i + 1)).filter (goneB una))) := by
            unfold Hid; rw [hF.out]; exact hS0.aside hR0 hg HD.out
          have HD1 : Hid (∀ k, lies va' k → ¬ lies vb k) := fun k h1 h2 => by
            rcases hl k h1 with h | h
            · exact HD.out k h h2
            · have := (hS0.ge (k := k) h2).2; omega
          have HW1 : Hid (Below w.heap.size w w') := below_append hB2 hB2.size hR0 hg
          obtain ⟨y0, y1, y2, y3, y4, y5, y6, y7, y8, y9, y10, y11⟩ := hX1.rc
          simp only [cutR] at y0 y1 y2 y3 y4 y5 y6 y7 y8 y9 y10 y11
          have HY : Hid (wr.alloc (.cells #[.int .i64 (max x.f una), .int .i64 x.t, .bool x.fin, .int .i64 x.sent, .int .i64 x.tx, .bool x.sk, .bool x.lo, .bool x.ag, .int .i64 x.gv, .int .i64 x.ga, .int .i64 x.fa, .bool x.idl] 28) = Y) := hY
          clear hr hR hg hl hR0 hS0 hB2 HW HA HG HD hc0 hF hG HF HH hpb hx hX1 hBZ rA rG hY
          go_upto_region 14 with fail
          rw [HY.out]
          clear k0 k1 k2 k3 k4 k5 k6 k7 k8 k9 k10 k11
          go_wp2_with (at_builtin; refine Lib.wpList_append_run (Y.alloc (.cells #[.int .i64 (max x.f una), .int .i64 x.t, .bool x.fin, .int .i64 x.sent, .int .i64 x.tx, .bool x.sk, .bool x.lo, .bool x.ag, .int .i64 x.gv, .int .i64 x.ga, .int .i64 x.fa, .bool x.idl] 28)) rfl (.tmp 51) (.tmp 53) 22 22 rfl (.slice va a vc) (.slice (some ⟨Y.heap.size, 0, none⟩) 1 1) rfl rfl (.slice va' (a + 1) vc') w' HRN.out ?_)
          go_roundw
          case rel => exact ⟨i + 1, a + 1, m, va', vc', vb, vd, by omega, by omega, by omega, by go_num, rfl, rfl, HA1.out, HB1.out, HD1.out, HW1.out⟩
          case measure => simp [intOf]; omega
      · obtain rfl : i = n := by omega
        have hall : ts.take i = ts := by rw [← HN.out.1]; exact List.take_length
        rw [hall] at HA HG
        have H1 : Hid (((ts.filter (fun x => !goneB una x)).map (cutR una)).length = a) := HA.out.len
        have H2 : Hid ((ts.filter (goneB una)).length = m) := HG.out.len
        clear hall
        go_wp2_with fail
        go_ret3
        unfold AckSays
        rw [HS.out.1, HS.out.2.1, HS.out.2.2, H1.out, H2.out]
        exact ⟨va, vc, vb, vd, rfl, HA.out, HG.out, HW.out⟩
set_option maxRecDepth 100000 in
set_option maxHeartbeats 4000000 in
theorem refAck_any (A : Option Addr) (cap : Nat) (ts : List Rc) (una : Int) (w : World) (hT : RecsAt w A ts) :
    Calls Try.prog 22 #[.slice A ts.length cap, .int .i64 una] w fun e W' => AckSays ts una w e W' := by
  cases hok : okB ts with
  | false =>
    have HS : Hid (leftL ts una = [] ∧ goneL ts una = [] ∧ ackE ts una = 100) := by unfold Hid leftL goneL ackE; rw [hok]; exact ⟨rfl, rfl, rfl⟩
    have c1 := refCheck_no A cap ts w hT hok
    clear hok hT
    go_enter Try.func22, Try.ntmps22
    go_wp2_with fail
    refine c1.mono ?_
    rintro e w1 ⟨rfl, hB1⟩
    go_wp2_with fail
    go_ret3
    unfold AckSays
    rw [HS.out.1, HS.out.2.1, HS.out.2.2]
    exact ⟨none, 0, none, 0, rfl, RowR.nil _ _, RowR.nil _ _, hB1⟩
  | true =>
    cases hb : beyB ts una with
    | false => exact refAck_go A cap ts una w hT hok hb
    | true =>
      have HS : Hid (leftL ts una = [] ∧ goneL ts una = [] ∧ ackE ts una = 2) := by unfold Hid leftL goneL ackE; rw [hok, hb]; exact ⟨rfl, rfl, rfl⟩
      have c1 := refCheck_ok A cap ts w hT hok
      have hb' := of_decide_eq_true hb
      obtain ⟨m, hm⟩ : ∃ m, ts.length = m + 1 := ⟨ts.length - 1, by omega⟩
      rw [hm] at hb'
      obtain ⟨b, o, rfl, hl0⟩ := hT.2 m (by omega)
      have hml : ts.length ≤ 65536 := (okB_iff.1 hok).1
      rw [hm] at hml
      obtain ⟨y, hy⟩ : ∃ y, nth ts m = y := ⟨_, rfl⟩
      rw [hy] at hl0
      simp only [Nat.add_sub_cancel] at hb'
      rw [hy] at hb'
      have ht := hb'.2
      have hd : decide (y.t < una) = true := decide_eq_true ht
      rw [hm] at c1 ⊢
      have HL : Hid (RecCells w b (o + m * 12) y) := hl0
      have hwm : IntKind.i64.wrap (m : Int) = m := by simp [IntKind.wrap, IntKind.bits, IntKind.signed]; omega
      clear hok hT hb hm hb' hl0 hy
      go_enter Try.func22, Try.ntmps22
      go_wp2_with fail
      refine c1.mono ?_
      rintro e w1 ⟨rfl, hB1⟩
      have hl1 := (HL.out.below hB1 HL.out.lt).out.2.1
      clear c1
      go_wp2_with fail
      go_ret3
      unfold AckSays
      rw [HS.out.1, HS.out.2.1, HS.out.2.2]
      exact ⟨none, 0, none, 0, rfl, RowR.nil _ _, RowR.nil _ _, hB1⟩
end Go.Proofs.Ytokiklaffbdomaa
