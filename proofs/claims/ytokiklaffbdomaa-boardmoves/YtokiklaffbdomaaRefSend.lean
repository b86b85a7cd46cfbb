/- The contract of the document's Send. -/
import Derived.Test.YtokiklaffbdomaaRefMv
import Derived.Deep.RegionLaw
namespace Go.Proofs.Ytokiklaffbdomaa
open Go.ChangeShapes Go.WideShapes Go.ChangeAt Go.RowKit Go.Shelf
set_option linter.unusedVariables false
attribute [local go_sem] Oper.semAt_some

/-- One record appended, at a step of a region that draws. -/
theorem step_one {w : World} {ops : Array Oper} {o : Oper} {a : Act} {K : Act → World → Prop} {Q : Exit → Act → World → Prop} {E : Prop} (hgd : o.guard = none) (s x : Operand)
    (ho : o.op = .call { callee := .builtin .append, args := #[s, x], argTypes := #[22, 22] }) (hty : o.type = 22)
    (B : Nat) (va : Option Addr) (n vc : Nat) (xs : List Rc) (g : Nat) (r : Rc) (hs : a.eval s = .slice va n vc) (hx : a.eval x = .slice (some ⟨g, 0, none⟩) 1 1)
    (hR : RowR w B va n vc xs) (hn : Box w g 28 (rv r)) (hb : (n + 1) * 80 ≤ 140737488355328) (hB : B ≤ w.heap.size)
    (h : ∀ va' vc' w', RowR w' B va' (n + 1) vc' (xs ++ [r]) → Below B w w' → K (a.put o.dst (.slice va' (n + 1) vc')) w') :
    if Region.wanted o (yielded ops a.tmps) = true then Oper.wp Try.prog o a w K Q else E := by
  have hw : Region.wanted o (yielded ops a.tmps) = true := by simp [Region.wanted, hgd]
  rw [if_pos hw]
  obtain ⟨va', vc', w', hr, h1, h2, _⟩ := app_one w B va n vc xs hR hB g r hn hb
  unfold Oper.wp execOp
  simp only [ho, hty, resolve, invoke, builtin, Sem.run_bind, Sem.run_pure, Result.andThen_ok, List.map_toArray, List.map_cons, List.map_nil, hs, hx, hr]
  exact h va' vc' w' h1 (below_append (Below.refl _ _) hB hR h2)
theorem okB_front {ts : List Rc} {x : Rc} (h : okB (ts ++ [x]) = true) : okB ts = true := by
  obtain ⟨h1, h2⟩ := okB_iff.1 h
  refine okB_iff.2 ⟨by simp at h1; omega, fun i hi => ?_⟩
  have h3 := okAt_iff.1 (h2 i (by simp; omega))
  rw [nth_append_left hi, nth_append_left (show i - 1 < ts.length by omega)] at h3
  exact okAt_iff.2 h3
set_option maxRecDepth 100000 in
set_option maxHeartbeats 4000000 in
theorem refSend_any (A : Option Addr) (cap : Nat) (ts : List Rc) (x : Rc) (w : World) (hT : RecsAt w A ts) (hA : A = none → cap = 0) (hb : (ts.length + 1) * 80 ≤ 140737488355328) :
    Calls Try.prog 15 #[.slice A ts.length cap, .agg #[.int .i64 x.f, .int .i64 x.t, .bool x.fin, .int .i64 x.sent, .int .i64 x.tx, .bool x.sk, .bool x.lo, .bool x.ag, .int .i64 x.gv, .int .i64 x.ga, .int .i64 x.fa, .bool x.idl]] w fun e W' => ∃ va vc, e = .returned (.tuple #[.slice va (sendL ts x).length vc, .int .i64 (chkI (ts ++ [x]))]) ∧ RowR W' w.heap.size va (sendL ts x).length vc (sendL ts x) ∧ Below w.heap.size w W' := by
  have hB0 : Below w.heap.size w (w.alloc (.cells #[.int .i64 x.f, .int .i64 x.t, .bool x.fin, .int .i64 x.sent, .int .i64 x.tx, .bool x.sk, .bool x.lo, .bool x.ag, .int .i64 x.gv, .int .i64 x.ga, .int .i64 x.fa, .bool x.idl] 28)) := below_new w _
  have bX : Box (w.alloc (.cells #[.int .i64 x.f, .int .i64 x.t, .bool x.fin, .int .i64 x.sent, .int .i64 x.tx, .bool x.sk, .bool x.lo, .bool x.ag, .int .i64 x.gv, .int .i64 x.ga, .int .i64 x.fa, .bool x.idl] 28)) w.heap.size 28 (rv x) := Box.new w 28 _
  obtain ⟨W0, hW0⟩ : ∃ W0, w.alloc (.cells #[.int .i64 x.f, .int .i64 x.t, .bool x.fin, .int .i64 x.sent, .int .i64 x.tx, .bool x.sk, .bool x.lo, .bool x.ag, .int .i64 x.gv, .int .i64 x.ga, .int .i64 x.fa, .bool x.idl] 28) = W0 := ⟨_, rfl⟩
  obtain ⟨n, hn⟩ : ∃ n, ts.length = n := ⟨_, rfl⟩
  have HN : Hid (ts.length = n) := hn
  have HB0 : Hid (Below w.heap.size w W0) := by rw [← hW0]; exact hB0
  have BX : Hid (∀ U, Below W0.heap.size W0 U → Box U w.heap.size 28 (rv x)) := fun U hU => by rw [hW0] at bX; exact bX.later hU
  have BXH : Hid (∀ U, Below W0.heap.size W0 U → (U.cell? ⟨w.heap.size, 0, none⟩ = some (.int .i64 x.f) ∧ U.cell? ⟨w.heap.size, 1, none⟩ = some (.int .i64 x.t) ∧ U.cell? ⟨w.heap.size, 2, none⟩ = some (.bool x.fin) ∧ U.cell? ⟨w.heap.size, 3, none⟩ = some (.int .i64 x.sent) ∧ U.cell? ⟨w.heap.size, 4, none⟩ = some (.int .i64 x.tx) ∧ U.cell? ⟨w.heap.size, 5, none⟩ = some (.bool x.sk) ∧ U.cell? ⟨w.heap.size, 6, none⟩ = some (.bool x.lo) ∧ U.cell? ⟨w.heap.size, 7, none⟩ = some (.bool x.ag) ∧ U.cell? ⟨w.heap.size, 8, none⟩ = some (.int .i64 x.gv) ∧ U.cell? ⟨w.heap.size, 9, none⟩ = some (.int .i64 x.ga) ∧ U.cell? ⟨w.heap.size, 10, none⟩ = some (.int .i64 x.fa) ∧ U.cell? ⟨w.heap.size, 11, none⟩ = some (.bool x.idl) ∧ Below W0.heap.size W0 U)) := fun U hU => by
    obtain ⟨a0, a1, a2, a3, a4, a5, a6, a7, a8, a9, a10, a11⟩ := (BX.out U hU).rc
    exact ⟨a0, a1, a2, a3, a4, a5, a6, a7, a8, a9, a10, a11, hU⟩
  have HCP : Hid (∀ U, Below W0.heap.size W0 U → Calls Try.prog 13 #[.slice A n cap] U fun e W' => ∃ va vc, e = .returned (.slice va n vc) ∧ RowR W' U.heap.size va n vc ts ∧ Below U.heap.size U W') := fun U hU => by
    have := copy_any A cap ts U (hT.later (Below.on HB0.out hU)) hA (by omega); rwa [hn] at this
  have HCK : Hid (∀ U, Below W0.heap.size W0 U → Calls Try.prog 20 #[.slice A n cap] U fun e W' => e = .returned (.int .i64 (chkI ts)) ∧ Below U.heap.size U W') := fun U hU => by
    have := refCheck_any A cap ts U (hT.later (Below.on HB0.out hU)); rwa [hn] at this
  rw [hn] at hb ⊢
  clear hn hT hA bX hB0
  go_enter Try.func15, Try.ntmps15
  go_upto_region 1 with fail
  clear hW0
  obtain ⟨x0, x1, x2, x3, x4, x5, x6, x7, x8, x9, x10, x11⟩ := (BX.out W0 (Below.refl _ _)).rc
  go_cut [6] (fun v wx => ∃ va vc, v = .slice va (n + 1) vc ∧ Hid (RowR wx W0.heap.size va (n + 1) vc (ts ++ [x]) ∧ Below W0.heap.size W0 wx))
  case first =>
    go_region_held3 (fun W => W.cell? ⟨w.heap.size, 0, none⟩ = some (.int .i64 x.f) ∧ W.cell? ⟨w.heap.size, 1, none⟩ = some (.int .i64 x.t) ∧ W.cell? ⟨w.heap.size, 2, none⟩ = some (.bool x.fin) ∧ W.cell? ⟨w.heap.size, 3, none⟩ = some (.int .i64 x.sent) ∧ W.cell? ⟨w.heap.size, 4, none⟩ = some (.int .i64 x.tx) ∧ W.cell? ⟨w.heap.size, 5, none⟩ = some (.bool x.sk) ∧ W.cell? ⟨w.heap.size, 6, none⟩ = some (.bool x.lo) ∧ W.cell? ⟨w.heap.size, 7, none⟩ = some (.bool x.ag) ∧ W.cell? ⟨w.heap.size, 8, none⟩ = some (.int .i64 x.gv) ∧ W.cell? ⟨w.heap.size, 9, none⟩ = some (.int .i64 x.ga) ∧ W.cell? ⟨w.heap.size, 10, none⟩ = some (.int .i64 x.fa) ∧ W.cell? ⟨w.heap.size, 11, none⟩ = some (.bool x.idl) ∧ Below W0.heap.size W0 W)
      (refine BXH.out _ ?_ <;> (repeat (first | with_reducible exact Below.refl _ _ | with_reducible assumption | with_reducible refine Below.drew ?_ | with_reducible refine below_drewN ?_ _ | with_reducible refine below_more ?_ _)))
      (first
        | (go_at_call 13; refine (HCP.out _ (by repeat (first | with_reducible exact Below.refl _ _ | with_reducible assumption | with_reducible refine Below.drew ?_ | with_reducible refine below_drewN ?_ _ | with_reducible refine below_more ?_ _))).mono ?_; rintro e w1 ⟨va, vc, rfl, hR1', hb1'⟩; have hb1 : Below W0.heap.size W0 w1 := Below.on (by repeat (first | with_reducible exact Below.refl _ _ | with_reducible assumption | with_reducible refine Below.drew ?_ | with_reducible refine below_drewN ?_ _ | with_reducible refine below_more ?_ _)) hb1'; have hR1 : RowR w1 W0.heap.size va n vc ts := hR1'.mono (by first | exact Nat.le_refl _ | (have := hb1.size; simp; done) | (have := hb1.size; simp; omega)))
        | (refine step_one rfl (.tmp 8) (.tmp 10) rfl rfl W0.heap.size va n vc ts _ x rfl rfl (by first | exact hR1 | exact hR1.alloc _) (by first | exact Box.new _ 28 (rv x) | exact Box.later (W := (W0.alloc (.cells (rv x).toArray 28)).drew) (Box.new W0 28 (rv x)) hb1' | exact (Box.new _ 28 (rv x)).later hb1') (by omega) (by first | exact hb1.size | (have := hb1.size; simp; omega)) ?_; intro va2 vc2 w2 hR2 hb2; have hb3 : Below W0.heap.size W0 w2 := by first | exact hb1.trans hb2 | exact (below_more hb1 _).trans hb2))
    all_goals (
      go_wp2_with fail
      go_meet
      exact ⟨va2, vc2, rfl, hR2, hb3⟩)
  case rest =>
    obtain ⟨va, vc, rfl, HR⟩ := hcut
    clear x0 x1 x2 x3 x4 x5 x6 x7 x8 x9 x10 x11 BX BXH HCP
    have HL1 : Hid ((ts ++ [x]).length = n + 1) := by unfold Hid; rw [List.length_append, HN.out]; rfl
    cases hc : okB (ts ++ [x]) with
    | true =>
      have HS : Hid (sendL ts x = ts ++ [x] ∧ chkI (ts ++ [x]) = 0) := by unfold Hid sendL; rw [hc]; exact ⟨rfl, chk_yes hc⟩
      have HK0 : Hid (chkI ts = 0) := chk_yes (okB_front hc)
      rw [HK0.out] at HCK
      have HCM : Hid (∀ U, RecsAt U va (ts ++ [x]) → Calls Try.prog 20 #[.slice va (n + 1) vc] U fun e W' => e = .returned (.int .i64 0) ∧ Below U.heap.size U W') := fun U hU => by
        have := refCheck_ok va vc (ts ++ [x]) U hU hc; rwa [HL1.out] at this
      clear hc
      go_wp2_with fail
      refine (HCK.out _ HR.out.2).mono ?_
      rintro e U1 ⟨rfl, hU1⟩
      go_wp2_with fail
      refine (HCM.out U1 (HR.out.1.recs.later hU1)).mono ?_
      rintro e U2 ⟨rfl, hU2⟩
      go_wp2_with fail
      go_ret2
      rw [HS.out.1, HS.out.2, HL1.out]
      exact ⟨va, vc, rfl, ((HR.out.1.later hU1).later hU2).mono HB0.out.size, Below.on (Below.on (Below.on HB0.out HR.out.2) hU1) hU2⟩
    | false =>
      have HS : Hid (sendL ts x = [] ∧ chkI (ts ++ [x]) = 100) := by unfold Hid sendL; rw [hc]; exact ⟨rfl, chk_no hc⟩
      have HCM : Hid (∀ U, RecsAt U va (ts ++ [x]) → Calls Try.prog 20 #[.slice va (n + 1) vc] U fun e W' => e = .returned (.int .i64 100) ∧ Below U.heap.size U W') := fun U hU => by
        have := refCheck_no va vc (ts ++ [x]) U hU hc; rwa [HL1.out] at this
      clear hc
      cases hk : okB ts with
      | true =>
        rw [chk_yes hk] at HCK
        clear hk
        go_wp2_with fail
        refine (HCK.out _ HR.out.2).mono ?_
        rintro e U1 ⟨rfl, hU1⟩
        go_wp2_with fail
        refine (HCM.out U1 (HR.out.1.recs.later hU1)).mono ?_
        rintro e U2 ⟨rfl, hU2⟩
        go_wp2_with fail
        go_ret2
        rw [HS.out.1, HS.out.2]
        exact ⟨none, 0, rfl, RowR.nil _ _, Below.on (Below.on (Below.on HB0.out HR.out.2) hU1) hU2⟩
      | false =>
        rw [chk_no hk] at HCK
        clear hk
        go_wp2_with fail
        refine (HCK.out _ HR.out.2).mono ?_
        rintro e U1 ⟨rfl, hU1⟩
        go_wp2_with fail
        go_ret2
        rw [HS.out.1, HS.out.2]
        exact ⟨none, 0, rfl, RowR.nil _ _, Below.on (Below.on HB0.out HR.out.2) hU1⟩
end Go.Proofs.Ytokiklaffbdomaa
