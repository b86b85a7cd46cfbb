/- The document's Given, over records. -/
import Derived.Test.YtdgiapeniafklaaRGivB
namespace Go.Proofs.Ytdgiapeniafklaa
open Go.ChangeShapes Go.WideShapes Go.ChangeAt Go.RowKit Go.Shelf
set_option linter.unusedVariables false
set_option linter.unusedSimpArgs false
attribute [local go_sem] Oper.semAt_some


set_option maxRecDepth 100000 in
set_option maxHeartbeats 4000000 in
theorem rgiv_run (q : Rt) (A : Option Addr) (cap : Nat) (ts : List Rc) (now low : Int) (w : World) (hT : RecsAt w A ts) (hI : ∀ x ∈ ts, RcI x) (k : okQ q = true) (q1 : tmB now = true) (q2 : tmB low = true) :
    Calls Try.prog 12 #[agv (rtL q), .slice A ts.length cap, .int .i64 now, .int .i64 low] w fun e w' => ((recsB ts = true ∧ e = .returned (.tuple #[agv (rtL (giv q ts now)), agv (smL (gvs q ts now low)), .int .i64 0])) ∨ (recsB ts = false ∧ e = .returned (.tuple #[agv (rtL rtZ), agv (smL smZ), .int .i64 2]))) ∧ Below w.heap.size w w' := by
  have HT : Hid (RecsAt w A ts) := hT
  have HI : Hid (∀ x ∈ ts, RcI x) := hI
  have hml : ts.length ≤ 9223372036854775807 := hT.1
  have hqq := ok_out k
  have ht1 := tm_out q1
  have ht2 := tm_out q2
  have c1 : ∀ W, Calls Try.prog 14 #[agv (rtL q)] W fun e w' => e = .returned (.int .i64 0) ∧ Below W.heap.size W w' := fun W => rchk_is q (by unfold chkE; rw [if_pos k]) W
  have c2 : ∀ W, Calls Try.prog 23 #[.int .i64 now] W fun e w' => e = .returned (.bool true) ∧ w' = W := fun W => rtm_is now q1 W
  have c3 : ∀ W, Calls Try.prog 23 #[.int .i64 low] W fun e w' => e = .returned (.bool true) ∧ w' = W := fun W => rtm_is low q2 W
  have HQ : Hid (((0 ≤ q.gv ∧ q.gv ≤ 1125899906842624) ∧ (0 ≤ q.ga ∧ q.ga ≤ 1125899906842624) ∧ (0 ≤ q.fa ∧ q.fa ≤ 1125899906842624) ∧ (0 ≤ q.idt ∧ q.idt ≤ 1125899906842624)) ∧ (0 ≤ now ∧ now ≤ 1125899906842624) ∧ 0 ≤ low ∧ low ≤ 1125899906842624) := ⟨hqq, ht1, ht2⟩
  obtain ⟨n, hn⟩ : ∃ n, ts.length = n := ⟨_, rfl⟩
  have HN : Hid (ts.length = n) := hn
  rw [hn] at hml ⊢
  clear k q1 q2 hT hI hqq ht1 ht2 hn
  go_enter Try.func12, Try.ntmps12
  go_wp2_with (first | (refine wpS_box rfl rfl rfl ?_))
  intro X1 bp HN
  have HX1 : Hid (Below w.heap.size w X1 ∧ Box X1 bp 23 (rtL q) ∧ w.heap.size ≤ bp ∧ True) := by
    have hb := Below.refl w.heap.size w
    obtain ⟨hg, hb2, bn⟩ := HN.out
    have hz := hb.size
    exact ⟨Below.on hb hb2, bn, by omega, trivial⟩
  clear HN 
  go_wp2_with (first | (refine wpS_alloc rfl rfl zero23 ?_))
  intro X2 br HN
  have HX2 : Hid (Below w.heap.size w X2 ∧ Box X2 bp 23 (rtL q) ∧ Box X2 br 23 (rtL rtZ) ∧ w.heap.size ≤ bp ∧ bp < br ∧ True) := by
    obtain ⟨hb, b0, l0, _⟩ := HX1.out
    obtain ⟨hg, hb2, bn⟩ := HN.out
    have z0 := b0.lt
    exact ⟨Below.on hb hb2, b0.later hb2, bn, l0, by omega, trivial⟩
  clear HN HX1
  go_wp2_with (first | (refine wpS_alloc rfl rfl zero26 ?_))
  intro X3 bs HN
  have HX3 : Hid (Below w.heap.size w X3 ∧ Box X3 bp 23 (rtL q) ∧ Box X3 br 23 (rtL rtZ) ∧ Box X3 bs 26 (smL smZ) ∧ w.heap.size ≤ bp ∧ bp < br ∧ br < bs ∧ True) := by
    obtain ⟨hb, b0, b1, l0, l1, _⟩ := HX2.out
    obtain ⟨hg, hb2, bn⟩ := HN.out
    have z0 := b0.lt
    have z1 := b1.lt
    exact ⟨Below.on hb hb2, b0.later hb2, b1.later hb2, bn, l0, l1, by omega, trivial⟩
  clear HN HX2
  go_wp2_with (first | (refine wpS_load rfl rfl rfl (HX3.out.2.1) isS23 ?_) | fail)
  refine (c1 _).mono ?_
  rintro e w4 ⟨rfl, hB⟩
  have HX4 : Hid (Below w.heap.size w w4 ∧ Box w4 bp 23 (rtL q) ∧ Box w4 br 23 (rtL rtZ) ∧ Box w4 bs 26 (smL smZ) ∧ w.heap.size ≤ bp ∧ bp < br ∧ br < bs ∧ True) := by
    obtain ⟨hb, b0, b1, b2, l0, l1, l2, _⟩ := HX3.out
    exact ⟨Below.on hb hB, b0.later hB, b1.later hB, b2.later hB, l0, l1, l2, trivial⟩
  clear hB HX3
  go_wp2_with fail
  refine (c2 _).mono ?_
  rintro e w' ⟨rfl, hq⟩
  obtain rfl := hq.symm
  clear hq
  go_wp2_with fail
  refine (c3 _).mono ?_
  rintro e w' ⟨rfl, hq⟩
  obtain rfl := hq.symm
  clear hq
  go_wp2_with fail
  clear c1 c2 c3
  go_loopw [11] (fun vi wr => ∃ (i : Nat), vi = .int .i64 i ∧ i ≤ n ∧ Hid (Below w.heap.size w wr ∧ Box wr bp 23 (rtL q) ∧ Box wr br 23 (rtL rtZ) ∧ Box wr bs 26 (smL smZ) ∧ w.heap.size ≤ bp ∧ bp < br ∧ br < bs ∧ True) ∧ Hid (∀ j, j < i → recB (nth ts j) = true))
    (fun vi _ => n - (intOf vi).toNat)
  case atStart => exact ⟨0, rfl, Nat.zero_le _, HX4, fun j hj => by omega⟩
  case round =>
    obtain ⟨i, rfl, hin, HR, HRA⟩ := hrel
    clear HX4
    by_cases hlt : i < n
    · have hi' : i < ts.length := by have := HN.out; omega
      obtain ⟨b, o, rfl, hc0⟩ := HT.out.2 i hi'
      obtain ⟨x, hx⟩ : ∃ x, nth ts i = x := ⟨_, rfl⟩
      rw [hx] at hc0
      have HX0 : Hid (nth ts i = x) := hx
      obtain ⟨x0, x1, x2, x3, x4, x5, x6, x7, x8, x9, x10, x11⟩ := (hc0.below HR.out.1 hc0.lt).out
      have hlt' : (i : Int) < (n : Int) := by omega
      have HIX : Hid (RcI x) := by rw [← hx]; exact HI.out _ (nth_mem hi')
      clear hx hc0
      cases hr : recB x with
      | false =>
        have c4 : ∀ W, Calls Try.prog 24 #[agv (rcL x)] W fun e w' => e = .returned (.bool false) ∧ Below W.heap.size W w' := fun W => rfits_is x HIX.out hr W
        have HN2 : Hid (recsB ts = false) := recs_no hi' (by rw [HX0.out]; exact hr)
        clear hr
        go_wp2_with fail
        refine (c4 _).mono ?_
        rintro e w31 ⟨rfl, hB⟩
        have HX31 : Hid (Below w.heap.size w w31 ∧ Box w31 bp 23 (rtL q) ∧ Box w31 br 23 (rtL rtZ) ∧ Box w31 bs 26 (smL smZ) ∧ w.heap.size ≤ bp ∧ bp < br ∧ br < bs ∧ True) := by
          obtain ⟨hb, b0, b1, b2, l0, l1, l2, _⟩ := HR.out
          exact ⟨Below.on hb hB, b0.later hB, b1.later hB, b2.later hB, l0, l1, l2, trivial⟩
        clear hB HR
        clear x0 x1 x2 x3 x4 x5 x6 x7 x8 x9 x10 x11
        go_wp2_with (first | (refine wpS_buildL (ps := []) rfl rfl built23 ?_) | (refine wpS_buildL (ps := []) rfl rfl built26 ?_) | (refine wpS_store rfl rfl rfl rfl rfl (HX31.out.2.2.1) rfl isS23 (rtL_one _) ?_))
        intro X32 HN
        have HX32 : Hid (Below w.heap.size w X32 ∧ Box X32 bp 23 (rtL q) ∧ Box X32 br 23 (rtL rtZ) ∧ Box X32 bs 26 (smL smZ) ∧ w.heap.size ≤ bp ∧ bp < br ∧ br < bs ∧ True) := by
          obtain ⟨hb, b0, b1, b2, l0, l1, l2, _⟩ := HX31.out
          obtain ⟨st, bn⟩ := HN.out
          exact ⟨st.below _ _ (by omega) hb, b0.sto st (by omega), bn, b2.sto st (by omega), l0, l1, l2, trivial⟩
        clear HN HX31
        go_wp2_with (first | (refine wpS_store rfl rfl rfl rfl rfl (HX32.out.2.2.2.1) rfl isS26 (smL_one _) ?_))
        intro X33 HN
        have HX33 : Hid (Below w.heap.size w X33 ∧ Box X33 bp 23 (rtL q) ∧ Box X33 br 23 (rtL rtZ) ∧ Box X33 bs 26 (smL smZ) ∧ w.heap.size ≤ bp ∧ bp < br ∧ br < bs ∧ True) := by
          obtain ⟨hb, b0, b1, b2, l0, l1, l2, _⟩ := HX32.out
          obtain ⟨st, bn⟩ := HN.out
          exact ⟨st.below _ _ (by omega) hb, b0.sto st (by omega), b1.sto st (by omega), bn, l0, l1, l2, trivial⟩
        clear HN HX32
        go_wp2_with fail
        refine bodyPost_ret (resSS rfl _ _ rfl (HX33.out.2.2.1) isS23 rfl (HX33.out.2.2.2.1) isS26) rfl ?_
        exact ⟨.inr ⟨HN2.out, rfl⟩, HX33.out.1⟩
      | true =>
        have c4 : ∀ W, Calls Try.prog 24 #[agv (rcL x)] W fun e w' => e = .returned (.bool true) ∧ Below W.heap.size W w' := fun W => rfits_is x HIX.out hr W
        have HI2 : Hid (∀ j, j < i + 1 → recB (nth ts j) = true) := fun j hj => by
          by_cases e : j = i
          · subst e; rw [HX0.out]; exact hr
          · exact HRA.out j (by omega)
        clear hr
        go_wp2_with fail
        refine (c4 _).mono ?_
        rintro e w31 ⟨rfl, hB⟩
        have HX31 : Hid (Below w.heap.size w w31 ∧ Box w31 bp 23 (rtL q) ∧ Box w31 br 23 (rtL rtZ) ∧ Box w31 bs 26 (smL smZ) ∧ w.heap.size ≤ bp ∧ bp < br ∧ br < bs ∧ True) := by
          obtain ⟨hb, b0, b1, b2, l0, l1, l2, _⟩ := HR.out
          exact ⟨Below.on hb hB, b0.later hB, b1.later hB, b2.later hB, l0, l1, l2, trivial⟩
        clear hB HR
        clear x0 x1 x2 x3 x4 x5 x6 x7 x8 x9 x10 x11
        go_wp2_with fail
        go_roundw
        case rel => exact ⟨i + 1, by go_num, by omega, HX31.out, HI2.out⟩
        case measure => simp [intOf]; omega
    · obtain rfl : i = n := by omega
      have HAL : Hid (∀ j, j < i → recB (nth ts j) = true) := HRA.out
      have HRB : Hid (recsB ts = true) := recs_all (fun j hj => HRA.out j (by have := HN.out; omega))
      clear HRA
      go_wp2_with (first | (refine wpS_buildL (ps := [(0, .tmp 47)]) rfl rfl (built26n now) ?_) | (refine wpS_alloc rfl rfl zero26 ?_))
      intro X41 bt HN
      have HX41 : Hid (Below w.heap.size w X41 ∧ Box X41 bp 23 (rtL q) ∧ Box X41 br 23 (rtL rtZ) ∧ Box X41 bs 26 (smL smZ) ∧ Box X41 bt 26 (smL smZ) ∧ w.heap.size ≤ bp ∧ bp < br ∧ br < bs ∧ bs < bt ∧ True) := by
        obtain ⟨hb, b0, b1, b2, l0, l1, l2, _⟩ := HR.out
        obtain ⟨hg, hb2, bn⟩ := HN.out
        have z0 := b0.lt
        have z1 := b1.lt
        have z2 := b2.lt
        exact ⟨Below.on hb hb2, b0.later hb2, b1.later hb2, b2.later hb2, bn, l0, l1, l2, by omega, trivial⟩
      clear HN HR
      go_wp2_with (first | (refine wpS_buildL (ps := [(0, .tmp 47)]) rfl rfl (built26n now) ?_) | (refine wpS_store rfl rfl rfl rfl rfl (HX41.out.2.2.2.2.1) rfl isS26 (smL_one _) ?_))
      intro X42 HN
      have HX42 : Hid (Below w.heap.size w X42 ∧ Box X42 bp 23 (rtL q) ∧ Box X42 br 23 (rtL rtZ) ∧ Box X42 bs 26 (smL smZ) ∧ Box X42 bt 26 (smL ⟨now, 0, 0, 0, false, 0, 0, 0⟩) ∧ w.heap.size ≤ bp ∧ bp < br ∧ br < bs ∧ bs < bt ∧ True) := by
        obtain ⟨hb, b0, b1, b2, b3, l0, l1, l2, l3, _⟩ := HX41.out
        obtain ⟨st, bn⟩ := HN.out
        exact ⟨st.below _ _ (by omega) hb, b0.sto st (by omega), b1.sto st (by omega), b2.sto st (by omega), bn, l0, l1, l2, l3, trivial⟩
      clear HN HX41
      go_wp2_with fail
      go_loopw [13, 14] (fun v13 v14 wx => ∃ (i2 : Nat) (oi : Int), v13 = .int .i64 oi ∧ v14 = .int .i64 i2 ∧ i2 ≤ i ∧ Hid (OneAt ts i2 oi) ∧ Hid (Below w.heap.size w wx ∧ Box wx bp 23 (rtL ⟨(gU q ts i2), q.ga, q.fa, q.idt⟩) ∧ Box wx br 23 (rtL rtZ) ∧ Box wx bs 26 (smL smZ) ∧ Box wx bt 26 (smL ⟨now, (ackU ts i2), 0, 0, false, 0, 0, 0⟩) ∧ w.heap.size ≤ bp ∧ bp < br ∧ br < bs ∧ bs < bt ∧ True))
        (fun _ v14 _ => i - (intOf v14).toNat)
      case atStart => exact ⟨0, -1, rfl, rfl, Nat.zero_le _, .inl ⟨rfl, rfl⟩, by unfold Hid; rw [gU_0 HQ.out.1.1, ackU_0]; exact HX42.out⟩
      case round =>
        obtain ⟨j, oi, rfl, rfl, hj, HO, HR2⟩ := hrel
        clear HX42
        by_cases hlt : j < i
        · have hj' : j < ts.length := by have := HN.out; omega
          have hju := ackU_in (ts := ts) (i := j) (by omega) (fun k hk => HAL.out k (by omega))
          have hrj := HAL.out j hlt
          have hgn := gU_next HQ.out.1.1 hj' hju hrj
          have han := ackU_next hj'
          obtain ⟨b, o, rfl, hc0⟩ := HT.out.2 j hj'
          have hro := rec_out hrj
          obtain ⟨x, hx⟩ : ∃ x, nth ts j = x := ⟨_, rfl⟩
          have HX0 : Hid (nth ts j = x) := hx
          rw [hx] at hc0 hro hgn han
          obtain ⟨gu, hgu⟩ : ∃ z, gU q ts j = z := ⟨_, rfl⟩
          obtain ⟨ak, hak⟩ : ∃ z, ackU ts j = z := ⟨_, rfl⟩
          have hgb : 0 ≤ gu ∧ gu ≤ 1125899906842624 := by rw [← hgu]; unfold gU; have := HQ.out.1.1; omega
          rw [hgu, hak] at HR2
          rw [hgu] at hgn
          rw [hak] at han hju
          obtain ⟨gn, hgn2⟩ : ∃ z, gU q ts (j + 1) = z := ⟨_, rfl⟩
          obtain ⟨an, han2⟩ : ∃ z, ackU ts (j + 1) = z := ⟨_, rfl⟩
          rw [hgn2] at hgn
          rw [han2] at han
          have HNX : Hid (gU q ts (j + 1) = gn ∧ ackU ts (j + 1) = an) := ⟨hgn2, han2⟩
          have hm1 := @min2 (gu + (x.t - x.f)) 1125899906842624 gn hgn
          have hm2 := @min2 (ak + (x.t - x.f)) 1125899906842624 an han.symm
          have htI : x.t ≤ 9223372036854775807 := by rw [← HX0.out]; exact (HI.out _ (nth_mem hj')).t.2
          have hlt' : (j : Int) < (i : Int) := by omega
          obtain ⟨x0, x1, x2, x3, x4, x5, x6, x7, x8, x9, x10, x11⟩ := (hc0.below HR2.out.1 hc0.lt).out
          clear hx hgu hak hgn2 han2 hgn han hrj
          rcases HO.out with ⟨hj0, rfl⟩ | ⟨jo, hjo, rfl, hnj⟩
          · have HON : Hid (OneAt ts (j + 1) (j : Int)) := OneAt.new HO.out hj' (by rw [HX0.out, hj0, oneU_0]; exact hro.2.1.1)
            clear hj0 HO
            as_aux_lemma =>
              go_upto_region 15 with fail
              go_quiet (fail)
              obtain ⟨X61, hX⟩ : ∃ V, wr.drewN nq = V := ⟨_, rfl⟩
              try rw [hX]
              have HX61 : Hid (Below w.heap.size w X61 ∧ Box X61 bp 23 (rtL ⟨gu, q.ga, q.fa, q.idt⟩) ∧ Box X61 br 23 (rtL rtZ) ∧ Box X61 bs 26 (smL smZ) ∧ Box X61 bt 26 (smL ⟨now, ak, 0, 0, false, 0, 0, 0⟩) ∧ w.heap.size ≤ bp ∧ bp < br ∧ br < bs ∧ bs < bt ∧ True) := by
                obtain ⟨hb, b0, b1, b2, b3, l0, l1, l2, l3, _⟩ := HR2.out
                have hB := below_drewN (Below.refl wr.heap.size wr) nq
                rw [hX] at hB
                exact ⟨Below.on hb hB, b0.later hB, b1.later hB, b2.later hB, b3.later hB, l0, l1, l2, l3, trivial⟩
              clear hX HR2
              have k0 : X61.cell? ⟨bp, 0, none⟩ = some (.int .i64 gu) := Box.cell (HX61.out.2.1) 0 rfl
              have fz := fun i => Box.frozen (HX61.out.2.1) i
              go_upto_region 17 with fail
              obtain ⟨X62, hX⟩ : ∃ X, X61.setCell ⟨bp, 0, none⟩ (.int .i64 gn) = X := ⟨_, rfl⟩
              try rw [hX]
              have HX62 : Hid (Below w.heap.size w X62 ∧ Box X62 bp 23 (rtL ⟨gn, q.ga, q.fa, q.idt⟩) ∧ Box X62 br 23 (rtL rtZ) ∧ Box X62 bs 26 (smL smZ) ∧ Box X62 bt 26 (smL ⟨now, ak, 0, 0, false, 0, 0, 0⟩) ∧ w.heap.size ≤ bp ∧ bp < br ∧ br < bs ∧ bs < bt ∧ True) := by
                obtain ⟨hb, b0, b1, b2, b3, l0, l1, l2, l3, _⟩ := HX61.out
                subst hX
                exact ⟨below_set hb _ _ _ (by omega), b0.set 0 _, b1.aside _ _ _ (by omega), b2.aside _ _ _ (by omega), b3.aside _ _ _ (by omega), l0, l1, l2, l3, trivial⟩
              clear hX HX61
              clear k0 fz
              have k1 : X62.cell? ⟨bt, 1, none⟩ = some (.int .i64 ak) := Box.cell (HX62.out.2.2.2.2.1) 1 rfl
              have fz := fun i => Box.frozen (HX62.out.2.2.2.2.1) i
              go_upto_region 18 with fail
              obtain ⟨X63, hX⟩ : ∃ X, X62.setCell ⟨bt, 1, none⟩ (.int .i64 an) = X := ⟨_, rfl⟩
              try rw [hX]
              have HX63 : Hid (Below w.heap.size w X63 ∧ Box X63 bp 23 (rtL ⟨gn, q.ga, q.fa, q.idt⟩) ∧ Box X63 br 23 (rtL rtZ) ∧ Box X63 bs 26 (smL smZ) ∧ Box X63 bt 26 (smL ⟨now, an, 0, 0, false, 0, 0, 0⟩) ∧ w.heap.size ≤ bp ∧ bp < br ∧ br < bs ∧ bs < bt ∧ True) := by
                obtain ⟨hb, b0, b1, b2, b3, l0, l1, l2, l3, _⟩ := HX62.out
                subst hX
                exact ⟨below_set hb _ _ _ (by omega), b0.aside _ _ _ (by omega), b1.aside _ _ _ (by omega), b2.aside _ _ _ (by omega), b3.set 1 _, l0, l1, l2, l3, trivial⟩
              clear hX HX62
              clear k1 fz x0 x1 x2 x3 x4 x5 x6 x7 x8 x9 x10 x11
              have x8 := (hc0.below (HX63.out.1) hc0.lt).out.2.2.2.2.2.2.2.2.1
              go_upto_region 18 with fail
              go_quiet (fail)
              obtain ⟨X64, hX⟩ : ∃ V, X63.drewN nq = V := ⟨_, rfl⟩
              try rw [hX]
              have HX64 : Hid (Below w.heap.size w X64 ∧ Box X64 bp 23 (rtL ⟨gn, q.ga, q.fa, q.idt⟩) ∧ Box X64 br 23 (rtL rtZ) ∧ Box X64 bs 26 (smL smZ) ∧ Box X64 bt 26 (smL ⟨now, an, 0, 0, false, 0, 0, 0⟩) ∧ w.heap.size ≤ bp ∧ bp < br ∧ br < bs ∧ bs < bt ∧ True) := by
                obtain ⟨hb, b0, b1, b2, b3, l0, l1, l2, l3, _⟩ := HX63.out
                have hB := below_drewN (Below.refl X63.heap.size X63) nq
                rw [hX] at hB
                exact ⟨Below.on hb hB, b0.later hB, b1.later hB, b2.later hB, b3.later hB, l0, l1, l2, l3, trivial⟩
              clear hX HX63
              clear x8
              go_wp2_with fail
              go_roundw
              case rel => exact ⟨j + 1, (j : Int), rfl, by go_num, by omega, HON.out, by unfold Hid; rw [HNX.out.1, HNX.out.2]; exact HX64.out⟩
              case measure => simp [intOf]; omega
          · obtain ⟨b', o', e', hc1⟩ := HT.out.2 jo (by omega)
            cases e'
            obtain ⟨y, hy⟩ : ∃ y, nth ts jo = y := ⟨_, rfl⟩
            rw [hy] at hc1 hnj
            have hjo' : (jo : Int) < (i : Int) := by omega
            by_cases hc : y.gv ≤ x.gv
            · have HON : Hid (OneAt ts (j + 1) (j : Int)) := OneAt.new HO.out hj' (by rw [HX0.out, ← hnj]; exact hc)
              have d1 : decide (y.gv ≤ x.gv) = true := decide_eq_true hc
              clear hc hnj hy HO
              as_aux_lemma =>
                go_upto_region 15 with fail
                go_quiet (fail)
                obtain ⟨X61, hX⟩ : ∃ V, wr.drewN nq = V := ⟨_, rfl⟩
                try rw [hX]
                have HX61 : Hid (Below w.heap.size w X61 ∧ Box X61 bp 23 (rtL ⟨gu, q.ga, q.fa, q.idt⟩) ∧ Box X61 br 23 (rtL rtZ) ∧ Box X61 bs 26 (smL smZ) ∧ Box X61 bt 26 (smL ⟨now, ak, 0, 0, false, 0, 0, 0⟩) ∧ w.heap.size ≤ bp ∧ bp < br ∧ br < bs ∧ bs < bt ∧ True) := by
                  obtain ⟨hb, b0, b1, b2, b3, l0, l1, l2, l3, _⟩ := HR2.out
                  have hB := below_drewN (Below.refl wr.heap.size wr) nq
                  rw [hX] at hB
                  exact ⟨Below.on hb hB, b0.later hB, b1.later hB, b2.later hB, b3.later hB, l0, l1, l2, l3, trivial⟩
                clear hX HR2
                have k0 : X61.cell? ⟨bp, 0, none⟩ = some (.int .i64 gu) := Box.cell (HX61.out.2.1) 0 rfl
                have fz := fun i => Box.frozen (HX61.out.2.1) i
                go_upto_region 17 with fail
                obtain ⟨X62, hX⟩ : ∃ X, X61.setCell ⟨bp, 0, none⟩ (.int .i64 gn) = X := ⟨_, rfl⟩
                try rw [hX]
                have HX62 : Hid (Below w.heap.size w X62 ∧ Box X62 bp 23 (rtL ⟨gn, q.ga, q.fa, q.idt⟩) ∧ Box X62 br 23 (rtL rtZ) ∧ Box X62 bs 26 (smL smZ) ∧ Box X62 bt 26 (smL ⟨now, ak, 0, 0, false, 0, 0, 0⟩) ∧ w.heap.size ≤ bp ∧ bp < br ∧ br < bs ∧ bs < bt ∧ True) := by
                  obtain ⟨hb, b0, b1, b2, b3, l0, l1, l2, l3, _⟩ := HX61.out
                  subst hX
                  exact ⟨below_set hb _ _ _ (by omega), b0.set 0 _, b1.aside _ _ _ (by omega), b2.aside _ _ _ (by omega), b3.aside _ _ _ (by omega), l0, l1, l2, l3, trivial⟩
                clear hX HX61
                clear k0 fz
                have k1 : X62.cell? ⟨bt, 1, none⟩ = some (.int .i64 ak) := Box.cell (HX62.out.2.2.2.2.1) 1 rfl
                have fz := fun i => Box.frozen (HX62.out.2.2.2.2.1) i
                go_upto_region 18 with fail
                obtain ⟨X63, hX⟩ : ∃ X, X62.setCell ⟨bt, 1, none⟩ (.int .i64 an) = X := ⟨_, rfl⟩
                try rw [hX]
                have HX63 : Hid (Below w.heap.size w X63 ∧ Box X63 bp 23 (rtL ⟨gn, q.ga, q.fa, q.idt⟩) ∧ Box X63 br 23 (rtL rtZ) ∧ Box X63 bs 26 (smL smZ) ∧ Box X63 bt 26 (smL ⟨now, an, 0, 0, false, 0, 0, 0⟩) ∧ w.heap.size ≤ bp ∧ bp < br ∧ br < bs ∧ bs < bt ∧ True) := by
                  obtain ⟨hb, b0, b1, b2, b3, l0, l1, l2, l3, _⟩ := HX62.out
                  subst hX
                  exact ⟨below_set hb _ _ _ (by omega), b0.aside _ _ _ (by omega), b1.aside _ _ _ (by omega), b2.aside _ _ _ (by omega), b3.set 1 _, l0, l1, l2, l3, trivial⟩
                clear hX HX62
                clear k1 fz x0 x1 x2 x3 x4 x5 x6 x7 x8 x9 x10 x11
                have x8 := (hc0.below (HX63.out.1) hc0.lt).out.2.2.2.2.2.2.2.2.1
                have y8 := (hc1.below (HX63.out.1) hc1.lt).out.2.2.2.2.2.2.2.2.1
                go_upto_region 18 with fail
                go_quiet (fail)
                obtain ⟨X64, hX⟩ : ∃ V, X63.drewN nq = V := ⟨_, rfl⟩
                try rw [hX]
                have HX64 : Hid (Below w.heap.size w X64 ∧ Box X64 bp 23 (rtL ⟨gn, q.ga, q.fa, q.idt⟩) ∧ Box X64 br 23 (rtL rtZ) ∧ Box X64 bs 26 (smL smZ) ∧ Box X64 bt 26 (smL ⟨now, an, 0, 0, false, 0, 0, 0⟩) ∧ w.heap.size ≤ bp ∧ bp < br ∧ br < bs ∧ bs < bt ∧ True) := by
                  obtain ⟨hb, b0, b1, b2, b3, l0, l1, l2, l3, _⟩ := HX63.out
                  have hB := below_drewN (Below.refl X63.heap.size X63) nq
                  rw [hX] at hB
                  exact ⟨Below.on hb hB, b0.later hB, b1.later hB, b2.later hB, b3.later hB, l0, l1, l2, l3, trivial⟩
                clear hX HX63
                clear x8 y8
                go_wp2_with fail
                go_roundw
                case rel => exact ⟨j + 1, (j : Int), rfl, by go_num, by omega, HON.out, by unfold Hid; rw [HNX.out.1, HNX.out.2]; exact HX64.out⟩
                case measure => simp [intOf]; omega
            · have HON : Hid (OneAt ts (j + 1) (jo : Int)) := OneAt.old (hy.trans hnj) hjo hj' (by rw [HX0.out, ← hnj]; exact hc)
              have d1 : decide (y.gv ≤ x.gv) = false := decide_eq_false hc
              clear hc hnj hy HO
              as_aux_lemma =>
                go_upto_region 15 with fail
                go_quiet (fail)
                obtain ⟨X61, hX⟩ : ∃ V, wr.drewN nq = V := ⟨_, rfl⟩
                try rw [hX]
                have HX61 : Hid (Below w.heap.size w X61 ∧ Box X61 bp 23 (rtL ⟨gu, q.ga, q.fa, q.idt⟩) ∧ Box X61 br 23 (rtL rtZ) ∧ Box X61 bs 26 (smL smZ) ∧ Box X61 bt 26 (smL ⟨now, ak, 0, 0, false, 0, 0, 0⟩) ∧ w.heap.size ≤ bp ∧ bp < br ∧ br < bs ∧ bs < bt ∧ True) := by
                  obtain ⟨hb, b0, b1, b2, b3, l0, l1, l2, l3, _⟩ := HR2.out
                  have hB := below_drewN (Below.refl wr.heap.size wr) nq
                  rw [hX] at hB
                  exact ⟨Below.on hb hB, b0.later hB, b1.later hB, b2.later hB, b3.later hB, l0, l1, l2, l3, trivial⟩
                clear hX HR2
                have k0 : X61.cell? ⟨bp, 0, none⟩ = some (.int .i64 gu) := Box.cell (HX61.out.2.1) 0 rfl
                have fz := fun i => Box.frozen (HX61.out.2.1) i
                go_upto_region 17 with fail
                obtain ⟨X62, hX⟩ : ∃ X, X61.setCell ⟨bp, 0, none⟩ (.int .i64 gn) = X := ⟨_, rfl⟩
                try rw [hX]
                have HX62 : Hid (Below w.heap.size w X62 ∧ Box X62 bp 23 (rtL ⟨gn, q.ga, q.fa, q.idt⟩) ∧ Box X62 br 23 (rtL rtZ) ∧ Box X62 bs 26 (smL smZ) ∧ Box X62 bt 26 (smL ⟨now, ak, 0, 0, false, 0, 0, 0⟩) ∧ w.heap.size ≤ bp ∧ bp < br ∧ br < bs ∧ bs < bt ∧ True) := by
                  obtain ⟨hb, b0, b1, b2, b3, l0, l1, l2, l3, _⟩ := HX61.out
                  subst hX
                  exact ⟨below_set hb _ _ _ (by omega), b0.set 0 _, b1.aside _ _ _ (by omega), b2.aside _ _ _ (by omega), b3.aside _ _ _ (by omega), l0, l1, l2, l3, trivial⟩
                clear hX HX61
                clear k0 fz
                have k1 : X62.cell? ⟨bt, 1, none⟩ = some (.int .i64 ak) := Box.cell (HX62.out.2.2.2.2.1) 1 rfl
                have fz := fun i => Box.frozen (HX62.out.2.2.2.2.1) i
                go_upto_region 18 with fail
                obtain ⟨X63, hX⟩ : ∃ X, X62.setCell ⟨bt, 1, none⟩ (.int .i64 an) = X := ⟨_, rfl⟩
                try rw [hX]
                have HX63 : Hid (Below w.heap.size w X63 ∧ Box X63 bp 23 (rtL ⟨gn, q.ga, q.fa, q.idt⟩) ∧ Box X63 br 23 (rtL rtZ) ∧ Box X63 bs 26 (smL smZ) ∧ Box X63 bt 26 (smL ⟨now, an, 0, 0, false, 0, 0, 0⟩) ∧ w.heap.size ≤ bp ∧ bp < br ∧ br < bs ∧ bs < bt ∧ True) := by
                  obtain ⟨hb, b0, b1, b2, b3, l0, l1, l2, l3, _⟩ := HX62.out
                  subst hX
                  exact ⟨below_set hb _ _ _ (by omega), b0.aside _ _ _ (by omega), b1.aside _ _ _ (by omega), b2.aside _ _ _ (by omega), b3.set 1 _, l0, l1, l2, l3, trivial⟩
                clear hX HX62
                clear k1 fz x0 x1 x2 x3 x4 x5 x6 x7 x8 x9 x10 x11
                have x8 := (hc0.below (HX63.out.1) hc0.lt).out.2.2.2.2.2.2.2.2.1
                have y8 := (hc1.below (HX63.out.1) hc1.lt).out.2.2.2.2.2.2.2.2.1
                go_upto_region 18 with fail
                go_quiet (fail)
                obtain ⟨X64, hX⟩ : ∃ V, X63.drewN nq = V := ⟨_, rfl⟩
                try rw [hX]
                have HX64 : Hid (Below w.heap.size w X64 ∧ Box X64 bp 23 (rtL ⟨gn, q.ga, q.fa, q.idt⟩) ∧ Box X64 br 23 (rtL rtZ) ∧ Box X64 bs 26 (smL smZ) ∧ Box X64 bt 26 (smL ⟨now, an, 0, 0, false, 0, 0, 0⟩) ∧ w.heap.size ≤ bp ∧ bp < br ∧ br < bs ∧ bs < bt ∧ True) := by
                  obtain ⟨hb, b0, b1, b2, b3, l0, l1, l2, l3, _⟩ := HX63.out
                  have hB := below_drewN (Below.refl X63.heap.size X63) nq
                  rw [hX] at hB
                  exact ⟨Below.on hb hB, b0.later hB, b1.later hB, b2.later hB, b3.later hB, l0, l1, l2, l3, trivial⟩
                clear hX HX63
                clear x8 y8
                go_wp2_with fail
                go_roundw
                case rel => exact ⟨j + 1, (jo : Int), rfl, by go_num, by omega, HON.out, by unfold Hid; rw [HNX.out.1, HNX.out.2]; exact HX64.out⟩
                case measure => simp [intOf]; omega
        · obtain rfl : j = i := by omega
          have hG0 : gU q ts j = allG q ts := by unfold gU allG; rw [← HN.out, ackU_all]
          have hA0 : ackU ts j = ackI ts := by rw [← HN.out, ackU_all]
          have hO0 : oneU ts j = oneR ts := by rw [← HN.out, oneU_all]
          have hju := ackU_in (ts := ts) (i := j) (by have := HN.out; omega) (fun k hk => HAL.out k (by omega))
          obtain ⟨G, hG⟩ : ∃ z, gU q ts j = z := ⟨_, rfl⟩
          obtain ⟨ak, hak⟩ : ∃ z, ackU ts j = z := ⟨_, rfl⟩
          have hGb : 0 ≤ G ∧ G ≤ 1125899906842624 := by rw [← hG]; unfold gU; have := HQ.out.1.1; omega
          rw [hG, hak] at HR2
          rcases HO.out with ⟨hj0, rfl⟩ | ⟨jo, hjo, rfl, hnj⟩
          · have h0 : ts = [] := by have := HN.out; rw [hj0] at this; exact List.eq_nil_of_length_eq_zero this
            have hgq : q.gv = G := by rw [← hG, hj0]; exact (gU_0 HQ.out.1.1 ts).symm
            have ha0 : (0 : Int) = ak := by rw [← hak, hj0, ackU_0]
            have HQ1 : Hid (giv q ts now = ⟨G, q.ga, q.fa, q.idt⟩) := by unfold Hid giv; rw [if_pos h0, ← hgq]
            have HS1 : Hid (gvs q ts now low = ⟨now, ak, 0, 0, false, G, 0, 0⟩) := by unfold Hid gvs; rw [if_pos h0, ← hgq, ← ha0]
            clear hG0 hA0 hO0 hju hG hak h0 hgq ha0 hj0 HO
            as_aux_lemma =>
              have k0 : wr.cell? ⟨bp, 0, none⟩ = some (.int .i64 G) := Box.cell (HR2.out.2.1) 0 rfl
              have m5 := Box.cell (HR2.out.2.2.2.2.1) 5 rfl
              have fz := fun i => Box.frozen (HR2.out.2.2.2.2.1) i
              go_upto_region 21 with fail
              obtain ⟨X61, hX⟩ : ∃ X, wr.setCell ⟨bt, 5, none⟩ (.int .i64 G) = X := ⟨_, rfl⟩
              try rw [hX]
              have HX61 : Hid (Below w.heap.size w X61 ∧ Box X61 bp 23 (rtL ⟨G, q.ga, q.fa, q.idt⟩) ∧ Box X61 br 23 (rtL rtZ) ∧ Box X61 bs 26 (smL smZ) ∧ Box X61 bt 26 (smL ⟨now, ak, 0, 0, false, G, 0, 0⟩) ∧ w.heap.size ≤ bp ∧ bp < br ∧ br < bs ∧ bs < bt ∧ True) := by
                obtain ⟨hb, b0, b1, b2, b3, l0, l1, l2, l3, _⟩ := HR2.out
                subst hX
                exact ⟨below_set hb _ _ _ (by omega), b0.aside _ _ _ (by omega), b1.aside _ _ _ (by omega), b2.aside _ _ _ (by omega), b3.set 5 _, l0, l1, l2, l3, trivial⟩
              clear hX HR2
              clear k0 m5 fz
              go_upto_region 22 with fail
              refine rgv22_reg (by rfl) ⟨G, q.ga, q.fa, q.idt⟩ ⟨now, ak, 0, 0, false, G, 0, 0⟩ bp br bs bt _ _  rfl rfl rfl rfl (HX61.out.2.2.2.2.2.1) (HX61.out.2.2.2.2.2.2.1) (HX61.out.2.2.2.2.2.2.2.1) (HX61.out.2.2.2.2.2.2.2.2.1) ⟨HX61.out.1, HX61.out.2.1, HX61.out.2.2.1, HX61.out.2.2.2.1, HX61.out.2.2.2.2.1, trivial⟩  ?_
              intro T X62 hT hS
              simp only [Act.put, List.setIfInBounds_toArray, List.set_cons_zero, List.set_cons_succ]
              simp only [hT]
              have HX62 : Hid (Below w.heap.size w X62 ∧ Box X62 bp 23 (rtL ⟨G, q.ga, q.fa, q.idt⟩) ∧ Box X62 br 23 (rtL ⟨G, q.ga, q.fa, q.idt⟩) ∧ Box X62 bs 26 (smL ⟨now, ak, 0, 0, false, G, 0, 0⟩) ∧ Box X62 bt 26 (smL ⟨now, ak, 0, 0, false, G, 0, 0⟩) ∧ w.heap.size ≤ bp ∧ bp < br ∧ br < bs ∧ bs < bt ∧ True) := by
                obtain ⟨hb, b0, b1, b2, b3, l0, l1, l2, l3, _⟩ := HX61.out
                exact ⟨hS.1, hS.2.1, hS.2.2.1, hS.2.2.2.1, hS.2.2.2.2.1, l0, l1, l2, l3, trivial⟩
              clear hS hT HX61
              go_wp2_with fail
              refine bodyPost_ret (resSS rfl _ _ rfl (HX62.out.2.2.1) isS23 rfl (HX62.out.2.2.2.1) isS26) rfl ?_
              exact ⟨.inl ⟨HRB.out, by rw [HQ1.out, HS1.out]; rfl⟩, HX62.out.1⟩
          · obtain ⟨b, o, rfl, hc1⟩ := HT.out.2 jo (by have := HN.out; omega)
            have hrx := rec_out (HAL.out jo hjo)
            rw [hO0] at hnj
            obtain ⟨x, hx⟩ : ∃ x, nth ts jo = x := ⟨_, rfl⟩
            rw [hx] at hc1 hrx hnj
            have hjo' : (jo : Int) < (j : Int) := by omega
            have h0 : ts ≠ [] := by rintro rfl; have := HN.out; simp at this; omega
            obtain ⟨rt, hrt⟩ : ∃ rt, rttI x now = rt := ⟨_, rfl⟩
            obtain ⟨rate, hrate⟩ : ∃ rate, spdI x G now low = rate := ⟨_, rfl⟩
            have hq1 : giv q ts now = ⟨G, now, x.sent, if q.idt < G then 0 else q.idt⟩ := by unfold giv; rw [if_neg h0, ← hG0, hG, ← hnj]
            have HS1 : Hid (gvs q ts now low = ⟨now, ak, rt, rate, x.idl, G, x.gv, 0⟩) := by unfold Hid gvs; rw [if_neg h0, ← hG0, hG, ← hA0, hak, ← hnj, hrt, hrate]
            have hqb := HQ.out
            clear hG0 hA0 hO0 hju hG hak h0 hx hnj HO
            by_cases hc : q.idt < G
            · have d1 : decide (q.idt < G) = true := decide_eq_true hc
              rw [if_pos hc] at hq1
              have HP : Hid (∀ W', Below w.heap.size w W' → ((recsB ts = true ∧ Ending.returned (.tuple #[agv (rtL (⟨G, now, x.sent, 0⟩ : Rt)), agv (smL (⟨now, ak, rt, rate, x.idl, G, x.gv, 0⟩ : Sm)), .int .i64 0]) = .returned (.tuple #[agv (rtL (giv q ts now)), agv (smL (gvs q ts now low)), .int .i64 0])) ∨ (recsB ts = false ∧ Ending.returned (.tuple #[agv (rtL (⟨G, now, x.sent, 0⟩ : Rt)), agv (smL (⟨now, ak, rt, rate, x.idl, G, x.gv, 0⟩ : Sm)), .int .i64 0]) = .returned (.tuple #[agv (rtL rtZ), agv (smL smZ), .int .i64 2]))) ∧ Below w.heap.size w W') := fun W' hB => ⟨.inl ⟨HRB.out, by rw [hq1, HS1.out]⟩, hB⟩
              clear hc hq1
              as_aux_lemma =>
                have k0 : wr.cell? ⟨bp, 0, none⟩ = some (.int .i64 G) := Box.cell (HR2.out.2.1) 0 rfl
                have m5 := Box.cell (HR2.out.2.2.2.2.1) 5 rfl
                have fz := fun i => Box.frozen (HR2.out.2.2.2.2.1) i
                go_upto_region 21 with fail
                obtain ⟨X61, hX⟩ : ∃ X, wr.setCell ⟨bt, 5, none⟩ (.int .i64 G) = X := ⟨_, rfl⟩
                try rw [hX]
                have HX61 : Hid (Below w.heap.size w X61 ∧ Box X61 bp 23 (rtL ⟨G, q.ga, q.fa, q.idt⟩) ∧ Box X61 br 23 (rtL rtZ) ∧ Box X61 bs 26 (smL smZ) ∧ Box X61 bt 26 (smL ⟨now, ak, 0, 0, false, G, 0, 0⟩) ∧ w.heap.size ≤ bp ∧ bp < br ∧ br < bs ∧ bs < bt ∧ True) := by
                  obtain ⟨hb, b0, b1, b2, b3, l0, l1, l2, l3, _⟩ := HR2.out
                  subst hX
                  exact ⟨below_set hb _ _ _ (by omega), b0.aside _ _ _ (by omega), b1.aside _ _ _ (by omega), b2.aside _ _ _ (by omega), b3.set 5 _, l0, l1, l2, l3, trivial⟩
                clear hX HR2
                clear k0 m5 fz
                obtain ⟨x0, x1, x2, x3, x4, x5, x6, x7, x8, x9, x10, x11⟩ := (hc1.below (HX61.out.1) hc1.lt).out
                go_wp2_with (first | (refine wpS_alloc rfl rfl zero33 ?_))
                intro X62 bx HN
                have HX62 : Hid (Below w.heap.size w X62 ∧ Box X62 bp 23 (rtL ⟨G, q.ga, q.fa, q.idt⟩) ∧ Box X62 br 23 (rtL rtZ) ∧ Box X62 bs 26 (smL smZ) ∧ Box X62 bt 26 (smL ⟨now, ak, 0, 0, false, G, 0, 0⟩) ∧ Box X62 bx 33 (rcL rcZ) ∧ w.heap.size ≤ bp ∧ bp < br ∧ br < bs ∧ bs < bt ∧ bt < bx ∧ True) := by
                  obtain ⟨hb, b0, b1, b2, b3, l0, l1, l2, l3, _⟩ := HX61.out
                  obtain ⟨hg, hb2, bn⟩ := HN.out
                  have z0 := b0.lt
                  have z1 := b1.lt
                  have z2 := b2.lt
                  have z3 := b3.lt
                  exact ⟨Below.on hb hb2, b0.later hb2, b1.later hb2, b2.later hb2, b3.later hb2, bn, l0, l1, l2, l3, by omega, trivial⟩
                clear HN HX61
                go_wp2_with (first | (refine wpS_store (cs := rcL x) rfl rfl rfl rfl rfl (HX62.out.2.2.2.2.2.1) rfl isS33 (rcL_one _) ?_))
                intro X63 HN
                have HX63 : Hid (Below w.heap.size w X63 ∧ Box X63 bp 23 (rtL ⟨G, q.ga, q.fa, q.idt⟩) ∧ Box X63 br 23 (rtL rtZ) ∧ Box X63 bs 26 (smL smZ) ∧ Box X63 bt 26 (smL ⟨now, ak, 0, 0, false, G, 0, 0⟩) ∧ Box X63 bx 33 (rcL x) ∧ w.heap.size ≤ bp ∧ bp < br ∧ br < bs ∧ bs < bt ∧ bt < bx ∧ True) := by
                  obtain ⟨hb, b0, b1, b2, b3, b4, l0, l1, l2, l3, l4, _⟩ := HX62.out
                  obtain ⟨st, bn⟩ := HN.out
                  exact ⟨st.below _ _ (by omega) hb, b0.sto st (by omega), b1.sto st (by omega), b2.sto st (by omega), b3.sto st (by omega), bn, l0, l1, l2, l3, l4, trivial⟩
                clear HN x0 x1 x2 x3 x4 x5 x6 x7 x8 x9 x10 x11 HX62
                have k1 := Box.cell (HX63.out.2.1) 1 rfl
                have fz := fun i => Box.frozen (HX63.out.2.1) i
                go_upto_region 25 with fail
                obtain ⟨X64, hX⟩ : ∃ X, X63.setCell ⟨bp, 1, none⟩ (.int .i64 now) = X := ⟨_, rfl⟩
                try rw [hX]
                have HX64 : Hid (Below w.heap.size w X64 ∧ Box X64 bp 23 (rtL ⟨G, now, q.fa, q.idt⟩) ∧ Box X64 br 23 (rtL rtZ) ∧ Box X64 bs 26 (smL smZ) ∧ Box X64 bt 26 (smL ⟨now, ak, 0, 0, false, G, 0, 0⟩) ∧ Box X64 bx 33 (rcL x) ∧ w.heap.size ≤ bp ∧ bp < br ∧ br < bs ∧ bs < bt ∧ bt < bx ∧ True) := by
                  obtain ⟨hb, b0, b1, b2, b3, b4, l0, l1, l2, l3, l4, _⟩ := HX63.out
                  subst hX
                  exact ⟨below_set hb _ _ _ (by omega), b0.set 1 _, b1.aside _ _ _ (by omega), b2.aside _ _ _ (by omega), b3.aside _ _ _ (by omega), b4.aside _ _ _ (by omega), l0, l1, l2, l3, l4, trivial⟩
                clear hX HX63
                clear k1 fz
                have m3 := Box.cell (HX64.out.2.2.2.2.2.1) 3 rfl
                have k2 := Box.cell (HX64.out.2.1) 2 rfl
                have fz := fun i => Box.frozen (HX64.out.2.1) i
                go_upto_region 26 with fail
                obtain ⟨X65, hX⟩ : ∃ X, X64.setCell ⟨bp, 2, none⟩ (.int .i64 x.sent) = X := ⟨_, rfl⟩
                try rw [hX]
                have HX65 : Hid (Below w.heap.size w X65 ∧ Box X65 bp 23 (rtL ⟨G, now, x.sent, q.idt⟩) ∧ Box X65 br 23 (rtL rtZ) ∧ Box X65 bs 26 (smL smZ) ∧ Box X65 bt 26 (smL ⟨now, ak, 0, 0, false, G, 0, 0⟩) ∧ Box X65 bx 33 (rcL x) ∧ w.heap.size ≤ bp ∧ bp < br ∧ br < bs ∧ bs < bt ∧ bt < bx ∧ True) := by
                  obtain ⟨hb, b0, b1, b2, b3, b4, l0, l1, l2, l3, l4, _⟩ := HX64.out
                  subst hX
                  exact ⟨below_set hb _ _ _ (by omega), b0.set 2 _, b1.aside _ _ _ (by omega), b2.aside _ _ _ (by omega), b3.aside _ _ _ (by omega), b4.aside _ _ _ (by omega), l0, l1, l2, l3, l4, trivial⟩
                clear hX HX64
                clear k2 m3 fz
                rename_i K1 hgo K2 hin
                have HGO : Hid _ := hgo
                clear hgo
                have k0 : X65.cell? ⟨bp, 0, none⟩ = some (.int .i64 G) := Box.cell (HX65.out.2.1) 0 rfl
                have k3 : X65.cell? ⟨bp, 3, none⟩ = some (.int .i64 q.idt) := Box.cell (HX65.out.2.1) 3 rfl
                have fz := fun i => Box.frozen (HX65.out.2.1) i
                go_wp2_with fail
                obtain ⟨X66, hX⟩ : ∃ X, X65.setCell ⟨bp, 3, none⟩ (.int .i64 0) = X := ⟨_, rfl⟩
                try rw [hX]
                have HX66 : Hid (Below w.heap.size w X66 ∧ Box X66 bp 23 (rtL ⟨G, now, x.sent, 0⟩) ∧ Box X66 br 23 (rtL rtZ) ∧ Box X66 bs 26 (smL smZ) ∧ Box X66 bt 26 (smL ⟨now, ak, 0, 0, false, G, 0, 0⟩) ∧ Box X66 bx 33 (rcL x) ∧ w.heap.size ≤ bp ∧ bp < br ∧ br < bs ∧ bs < bt ∧ bt < bx ∧ True) := by
                  obtain ⟨hb, b0, b1, b2, b3, b4, l0, l1, l2, l3, l4, _⟩ := HX65.out
                  subst hX
                  exact ⟨below_set hb _ _ _ (by omega), b0.set 3 _, b1.aside _ _ _ (by omega), b2.aside _ _ _ (by omega), b3.aside _ _ _ (by omega), b4.aside _ _ _ (by omega), l0, l1, l2, l3, l4, trivial⟩
                clear hX HX65
                clear k0 k3 fz
                refine HGO.out _ _ ?_
                exact rgB G 0 ak rt rate now low x w _ bp br bs bt bx HX66 (by omega) hrt hrate HP
            · have d1 : decide (q.idt < G) = false := decide_eq_false hc
              rw [if_neg hc] at hq1
              have HP : Hid (∀ W', Below w.heap.size w W' → ((recsB ts = true ∧ Ending.returned (.tuple #[agv (rtL (⟨G, now, x.sent, q.idt⟩ : Rt)), agv (smL (⟨now, ak, rt, rate, x.idl, G, x.gv, 0⟩ : Sm)), .int .i64 0]) = .returned (.tuple #[agv (rtL (giv q ts now)), agv (smL (gvs q ts now low)), .int .i64 0])) ∨ (recsB ts = false ∧ Ending.returned (.tuple #[agv (rtL (⟨G, now, x.sent, q.idt⟩ : Rt)), agv (smL (⟨now, ak, rt, rate, x.idl, G, x.gv, 0⟩ : Sm)), .int .i64 0]) = .returned (.tuple #[agv (rtL rtZ), agv (smL smZ), .int .i64 2]))) ∧ Below w.heap.size w W') := fun W' hB => ⟨.inl ⟨HRB.out, by rw [hq1, HS1.out]⟩, hB⟩
              clear hc hq1
              as_aux_lemma =>
                have k0 : wr.cell? ⟨bp, 0, none⟩ = some (.int .i64 G) := Box.cell (HR2.out.2.1) 0 rfl
                have m5 := Box.cell (HR2.out.2.2.2.2.1) 5 rfl
                have fz := fun i => Box.frozen (HR2.out.2.2.2.2.1) i
                go_upto_region 21 with fail
                obtain ⟨X61, hX⟩ : ∃ X, wr.setCell ⟨bt, 5, none⟩ (.int .i64 G) = X := ⟨_, rfl⟩
                try rw [hX]
                have HX61 : Hid (Below w.heap.size w X61 ∧ Box X61 bp 23 (rtL ⟨G, q.ga, q.fa, q.idt⟩) ∧ Box X61 br 23 (rtL rtZ) ∧ Box X61 bs 26 (smL smZ) ∧ Box X61 bt 26 (smL ⟨now, ak, 0, 0, false, G, 0, 0⟩) ∧ w.heap.size ≤ bp ∧ bp < br ∧ br < bs ∧ bs < bt ∧ True) := by
                  obtain ⟨hb, b0, b1, b2, b3, l0, l1, l2, l3, _⟩ := HR2.out
                  subst hX
                  exact ⟨below_set hb _ _ _ (by omega), b0.aside _ _ _ (by omega), b1.aside _ _ _ (by omega), b2.aside _ _ _ (by omega), b3.set 5 _, l0, l1, l2, l3, trivial⟩
                clear hX HR2
                clear k0 m5 fz
                obtain ⟨x0, x1, x2, x3, x4, x5, x6, x7, x8, x9, x10, x11⟩ := (hc1.below (HX61.out.1) hc1.lt).out
                go_wp2_with (first | (refine wpS_alloc rfl rfl zero33 ?_))
                intro X62 bx HN
                have HX62 : Hid (Below w.heap.size w X62 ∧ Box X62 bp 23 (rtL ⟨G, q.ga, q.fa, q.idt⟩) ∧ Box X62 br 23 (rtL rtZ) ∧ Box X62 bs 26 (smL smZ) ∧ Box X62 bt 26 (smL ⟨now, ak, 0, 0, false, G, 0, 0⟩) ∧ Box X62 bx 33 (rcL rcZ) ∧ w.heap.size ≤ bp ∧ bp < br ∧ br < bs ∧ bs < bt ∧ bt < bx ∧ True) := by
                  obtain ⟨hb, b0, b1, b2, b3, l0, l1, l2, l3, _⟩ := HX61.out
                  obtain ⟨hg, hb2, bn⟩ := HN.out
                  have z0 := b0.lt
                  have z1 := b1.lt
                  have z2 := b2.lt
                  have z3 := b3.lt
                  exact ⟨Below.on hb hb2, b0.later hb2, b1.later hb2, b2.later hb2, b3.later hb2, bn, l0, l1, l2, l3, by omega, trivial⟩
                clear HN HX61
                go_wp2_with (first | (refine wpS_store (cs := rcL x) rfl rfl rfl rfl rfl (HX62.out.2.2.2.2.2.1) rfl isS33 (rcL_one _) ?_))
                intro X63 HN
                have HX63 : Hid (Below w.heap.size w X63 ∧ Box X63 bp 23 (rtL ⟨G, q.ga, q.fa, q.idt⟩) ∧ Box X63 br 23 (rtL rtZ) ∧ Box X63 bs 26 (smL smZ) ∧ Box X63 bt 26 (smL ⟨now, ak, 0, 0, false, G, 0, 0⟩) ∧ Box X63 bx 33 (rcL x) ∧ w.heap.size ≤ bp ∧ bp < br ∧ br < bs ∧ bs < bt ∧ bt < bx ∧ True) := by
                  obtain ⟨hb, b0, b1, b2, b3, b4, l0, l1, l2, l3, l4, _⟩ := HX62.out
                  obtain ⟨st, bn⟩ := HN.out
                  exact ⟨st.below _ _ (by omega) hb, b0.sto st (by omega), b1.sto st (by omega), b2.sto st (by omega), b3.sto st (by omega), bn, l0, l1, l2, l3, l4, trivial⟩
                clear HN x0 x1 x2 x3 x4 x5 x6 x7 x8 x9 x10 x11 HX62
                have k1 := Box.cell (HX63.out.2.1) 1 rfl
                have fz := fun i => Box.frozen (HX63.out.2.1) i
                go_upto_region 25 with fail
                obtain ⟨X64, hX⟩ : ∃ X, X63.setCell ⟨bp, 1, none⟩ (.int .i64 now) = X := ⟨_, rfl⟩
                try rw [hX]
                have HX64 : Hid (Below w.heap.size w X64 ∧ Box X64 bp 23 (rtL ⟨G, now, q.fa, q.idt⟩) ∧ Box X64 br 23 (rtL rtZ) ∧ Box X64 bs 26 (smL smZ) ∧ Box X64 bt 26 (smL ⟨now, ak, 0, 0, false, G, 0, 0⟩) ∧ Box X64 bx 33 (rcL x) ∧ w.heap.size ≤ bp ∧ bp < br ∧ br < bs ∧ bs < bt ∧ bt < bx ∧ True) := by
                  obtain ⟨hb, b0, b1, b2, b3, b4, l0, l1, l2, l3, l4, _⟩ := HX63.out
                  subst hX
                  exact ⟨below_set hb _ _ _ (by omega), b0.set 1 _, b1.aside _ _ _ (by omega), b2.aside _ _ _ (by omega), b3.aside _ _ _ (by omega), b4.aside _ _ _ (by omega), l0, l1, l2, l3, l4, trivial⟩
                clear hX HX63
                clear k1 fz
                have m3 := Box.cell (HX64.out.2.2.2.2.2.1) 3 rfl
                have k2 := Box.cell (HX64.out.2.1) 2 rfl
                have fz := fun i => Box.frozen (HX64.out.2.1) i
                go_upto_region 26 with fail
                obtain ⟨X65, hX⟩ : ∃ X, X64.setCell ⟨bp, 2, none⟩ (.int .i64 x.sent) = X := ⟨_, rfl⟩
                try rw [hX]
                have HX65 : Hid (Below w.heap.size w X65 ∧ Box X65 bp 23 (rtL ⟨G, now, x.sent, q.idt⟩) ∧ Box X65 br 23 (rtL rtZ) ∧ Box X65 bs 26 (smL smZ) ∧ Box X65 bt 26 (smL ⟨now, ak, 0, 0, false, G, 0, 0⟩) ∧ Box X65 bx 33 (rcL x) ∧ w.heap.size ≤ bp ∧ bp < br ∧ br < bs ∧ bs < bt ∧ bt < bx ∧ True) := by
                  obtain ⟨hb, b0, b1, b2, b3, b4, l0, l1, l2, l3, l4, _⟩ := HX64.out
                  subst hX
                  exact ⟨below_set hb _ _ _ (by omega), b0.set 2 _, b1.aside _ _ _ (by omega), b2.aside _ _ _ (by omega), b3.aside _ _ _ (by omega), b4.aside _ _ _ (by omega), l0, l1, l2, l3, l4, trivial⟩
                clear hX HX64
                clear k2 m3 fz
                rename_i K1 hgo K2 hin
                have HGO : Hid _ := hgo
                clear hgo
                have k0 : X65.cell? ⟨bp, 0, none⟩ = some (.int .i64 G) := Box.cell (HX65.out.2.1) 0 rfl
                have k3 : X65.cell? ⟨bp, 3, none⟩ = some (.int .i64 q.idt) := Box.cell (HX65.out.2.1) 3 rfl
                have fz := fun i => Box.frozen (HX65.out.2.1) i
                go_wp2_with fail
                clear k0 k3 fz
                refine HGO.out _ _ ?_
                exact rgB G q.idt ak rt rate now low x w _ bp br bs bt bx HX65 (by omega) hrt hrate HP
end Go.Proofs.Ytdgiapeniafklaa
