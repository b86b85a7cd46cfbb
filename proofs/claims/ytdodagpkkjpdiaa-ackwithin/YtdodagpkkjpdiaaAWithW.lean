/- AckWithin's walk. -/
import Derived.Test.YtdodagpkkjpdiaaAHeads
import Derived.Deep.Quiet
namespace Go.Proofs.Ytdodagpkkjpdiaa
open Go.ChangeShapes Go.WideShapes Go.ChangeAt Go.RowKit Go.Shelf
set_option linter.unusedVariables false
set_option linter.unusedSimpArgs false
attribute [local go_sem] Oper.semAt_some

set_option maxRecDepth 100000 in
set_option maxHeartbeats 4000000 in
theorem wi_no (a : Ak.As) (s : Seg) (k : Hs) (w : World) (ha : AsI a) (hK : Hid (BlksAt w k.ka s.sk ∧ s.sk.length * 16 ≤ 281474976710656)) {hh : Ak.Hr} (hH : Ak.hear a (snOf s) = hh) {n : Nat} (hn : hh.sp.length = n) (hcn : hh.cn = false) (hold : hh.old = false) (htw : hh.tw = false) (hak : hh.ak = 0) (hpos : hh.pos = 0) (hsp : n = 0) : Calls Try.prog 5 #[agv (asL a), agv (sgL s k)] w fun e w' => e = .returned (.bool true) ∧ Below w.heap.size w w' := by
  go_enter Try.func5, Try.ntmps5
  go_wp2_with (first | (refine wpS_box rfl rfl rfl ?_))
  intro X1 g HN
  have HX1 : Hid (Below w.heap.size w X1 ∧ Box X1 g 24 (asL a) ∧ w.heap.size ≤ g ∧ True) := by
    have hb := Below.refl w.heap.size w
    obtain ⟨hg, hb2, bn⟩ := HN.out
    have hz := hb.size
    exact ⟨Below.on hb hb2, bn, by omega, trivial⟩
  clear HN 
  go_wp2_with (first | (refine wpS_box rfl rfl rfl ?_))
  intro X2 b HN
  have HX2 : Hid (Below w.heap.size w X2 ∧ Box X2 g 24 (asL a) ∧ Box X2 b 28 (sgL s k) ∧ w.heap.size ≤ g ∧ g < b ∧ True) := by
    obtain ⟨hb, b0, l0, _⟩ := HX1.out
    obtain ⟨hg, hb2, bn⟩ := HN.out
    have z0 := b0.lt
    exact ⟨Below.on hb hb2, b0.later hb2, bn, l0, by omega, trivial⟩
  clear HN HX1
  go_wp2_with (first | (refine wpS_load rfl rfl rfl (HX2.out.2.1) isS24 ?_) | (refine wpS_load rfl rfl rfl (HX2.out.2.2.1) isS28 ?_) | fail)
  refine (weigh_is a s k ha X2 (hK.out.1.later HX2.out.1) hK.out.2).mono ?_
  unfold WgE
  rw [hH, hn]
  rintro e w3 ⟨va, vc, rfl, hR, hB⟩
  have HX3 : Hid (Below w.heap.size w w3 ∧ Box w3 g 24 (asL a) ∧ Box w3 b 28 (sgL s k) ∧ w.heap.size ≤ g ∧ g < b ∧ RowT w3 w.heap.size va n vc hh.sp ∧ True) := by
    obtain ⟨hb, b0, b1, l0, l1, _⟩ := HX2.out
    exact ⟨Below.on hb hB, b0.later hB, b1.later hB, l0, l1, hR.mono hb.size, trivial⟩
  clear hB hR HX2
  go_wp2_with (first | (refine wpS_alloc rfl rfl zero31 ?_))
  intro X4 q HN
  have HX4 : Hid (Below w.heap.size w X4 ∧ Box X4 g 24 (asL a) ∧ Box X4 b 28 (sgL s k) ∧ Box X4 q 31 (hcL hcZ) ∧ w.heap.size ≤ g ∧ g < b ∧ b < q ∧ RowT X4 w.heap.size va n vc hh.sp ∧ True) := by
    obtain ⟨hb, b0, b1, l0, l1, r0, _⟩ := HX3.out
    obtain ⟨hg, hb2, bn⟩ := HN.out
    have z0 := b0.lt
    have z1 := b1.lt
    exact ⟨Below.on hb hb2, b0.later hb2, b1.later hb2, bn, l0, l1, by omega, r0.below hb2 (Nat.le_refl _), trivial⟩
  clear HN HX3
  go_wp2_with (first | (refine wpS_store rfl rfl rfl rfl rfl (HX4.out.2.2.2.1) rfl isS31 (hcL_one _) ?_))
  intro X5 HN
  have HX5 : Hid (Below w.heap.size w X5 ∧ Box X5 g 24 (asL a) ∧ Box X5 b 28 (sgL s k) ∧ Box X5 q 31 (hcL (hcOf hh va vc)) ∧ w.heap.size ≤ g ∧ g < b ∧ b < q ∧ RowT X5 w.heap.size va n vc hh.sp ∧ True) := by
    obtain ⟨hb, b0, b1, b2, l0, l1, l2, r0, _⟩ := HX4.out
    obtain ⟨st, bn⟩ := HN.out
    exact ⟨st.below _ _ (by omega) hb, b0.sto st (by omega), b1.sto st (by omega), bn, l0, l1, l2, r0.stoB st b2 (by decide), trivial⟩
  clear HN HX4
  have q0 : X5.cell? ⟨q, 0, none⟩ = some (.bool false) := by
    have h := Box.cell (HX5.out.2.2.2.1) 0 rfl
    rw [← hcn]; exact h
  have q2 : X5.cell? ⟨q, 2, none⟩ = some (.bool false) := by
    have h := Box.cell (HX5.out.2.2.2.1) 2 rfl
    rw [← hold]; exact h
  have q7 : X5.cell? ⟨q, 7, none⟩ = some (.bool false) := by
    have h := Box.cell (HX5.out.2.2.2.1) 7 rfl
    rw [← htw]; exact h
  have q1 : X5.cell? ⟨q, 1, none⟩ = some (.int .i64 0) := by
    have h := Box.cell (HX5.out.2.2.2.1) 1 rfl
    rw [← hak]; exact h
  have q3 : X5.cell? ⟨q, 3, none⟩ = some (.int .i64 0) := by
    have h := Box.cell (HX5.out.2.2.2.1) 3 rfl
    rw [← hpos]; exact h
  have q8 : X5.cell? ⟨q, 8, none⟩ = some (.slice va 0 vc) := by
    have h := Box.cell (HX5.out.2.2.2.1) 8 rfl
    rw [show (0 : Nat) = hh.sp.length by omega]; exact h
  go_wp2_with fail
  refine (heads_is _).mono ?_
  rintro e w6 ⟨rfl, hB⟩
  have HX6 : Hid (Below w.heap.size w w6 ∧ Box w6 g 24 (asL a) ∧ Box w6 b 28 (sgL s k) ∧ Box w6 q 31 (hcL (hcOf hh va vc)) ∧ w.heap.size ≤ g ∧ g < b ∧ b < q ∧ RowT w6 w.heap.size va n vc hh.sp ∧ True) := by
    obtain ⟨hb, b0, b1, b2, l0, l1, l2, r0, _⟩ := HX5.out
    exact ⟨Below.on hb hB, b0.later hB, b1.later hB, b2.later hB, l0, l1, l2, r0.below hB (Nat.le_refl _), trivial⟩
  clear hB  HX5
  go_wp2_with fail
  go_ret
  exact ⟨rfl, HX6.out.1⟩
set_option maxRecDepth 100000 in
set_option maxHeartbeats 4000000 in
theorem wi_y (a : Ak.As) (s : Seg) (k : Hs) (w : World) (ha : AsI a) (hK : Hid (BlksAt w k.ka s.sk ∧ s.sk.length * 16 ≤ 281474976710656)) {hh : Ak.Hr} (hH : Ak.hear a (snOf s) = hh) {n : Nat} (hn : hh.sp.length = n) (hcn : hh.cn = true) (hold : hh.old = false) (h1 : decide (hh.ak < a.una) = false) (h2 : decide (a.nxt < hh.ak) = false) (h3 : decide (hh.rtt < 0) = false) (hchk : chk (-1) hh.sp = true) (hin2 : ∀ c ∈ hh.sp, hh.ak ≤ c.1 ∧ c.2 ≤ a.nxt) : Calls Try.prog 5 #[agv (asL a), agv (sgL s k)] w fun e w' => e = .returned (.bool true) ∧ Below w.heap.size w w' := by
  go_enter Try.func5, Try.ntmps5
  go_wp2_with (first | (refine wpS_box rfl rfl rfl ?_))
  intro X1 g HN
  have HX1 : Hid (Below w.heap.size w X1 ∧ Box X1 g 24 (asL a) ∧ w.heap.size ≤ g ∧ True) := by
    have hb := Below.refl w.heap.size w
    obtain ⟨hg, hb2, bn⟩ := HN.out
    have hz := hb.size
    exact ⟨Below.on hb hb2, bn, by omega, trivial⟩
  clear HN 
  go_wp2_with (first | (refine wpS_box rfl rfl rfl ?_))
  intro X2 b HN
  have HX2 : Hid (Below w.heap.size w X2 ∧ Box X2 g 24 (asL a) ∧ Box X2 b 28 (sgL s k) ∧ w.heap.size ≤ g ∧ g < b ∧ True) := by
    obtain ⟨hb, b0, l0, _⟩ := HX1.out
    obtain ⟨hg, hb2, bn⟩ := HN.out
    have z0 := b0.lt
    exact ⟨Below.on hb hb2, b0.later hb2, bn, l0, by omega, trivial⟩
  clear HN HX1
  go_wp2_with (first | (refine wpS_load rfl rfl rfl (HX2.out.2.1) isS24 ?_) | (refine wpS_load rfl rfl rfl (HX2.out.2.2.1) isS28 ?_) | fail)
  refine (weigh_is a s k ha X2 (hK.out.1.later HX2.out.1) hK.out.2).mono ?_
  unfold WgE
  rw [hH, hn]
  rintro e w3 ⟨va, vc, rfl, hR, hB⟩
  have HX3 : Hid (Below w.heap.size w w3 ∧ Box w3 g 24 (asL a) ∧ Box w3 b 28 (sgL s k) ∧ w.heap.size ≤ g ∧ g < b ∧ RowT w3 w.heap.size va n vc hh.sp ∧ True) := by
    obtain ⟨hb, b0, b1, l0, l1, _⟩ := HX2.out
    exact ⟨Below.on hb hB, b0.later hB, b1.later hB, l0, l1, hR.mono hb.size, trivial⟩
  clear hB hR HX2
  go_wp2_with (first | (refine wpS_alloc rfl rfl zero31 ?_))
  intro X4 q HN
  have HX4 : Hid (Below w.heap.size w X4 ∧ Box X4 g 24 (asL a) ∧ Box X4 b 28 (sgL s k) ∧ Box X4 q 31 (hcL hcZ) ∧ w.heap.size ≤ g ∧ g < b ∧ b < q ∧ RowT X4 w.heap.size va n vc hh.sp ∧ True) := by
    obtain ⟨hb, b0, b1, l0, l1, r0, _⟩ := HX3.out
    obtain ⟨hg, hb2, bn⟩ := HN.out
    have z0 := b0.lt
    have z1 := b1.lt
    exact ⟨Below.on hb hb2, b0.later hb2, b1.later hb2, bn, l0, l1, by omega, r0.below hb2 (Nat.le_refl _), trivial⟩
  clear HN HX3
  go_wp2_with (first | (refine wpS_store rfl rfl rfl rfl rfl (HX4.out.2.2.2.1) rfl isS31 (hcL_one _) ?_))
  intro X5 HN
  have HX5 : Hid (Below w.heap.size w X5 ∧ Box X5 g 24 (asL a) ∧ Box X5 b 28 (sgL s k) ∧ Box X5 q 31 (hcL (hcOf hh va vc)) ∧ w.heap.size ≤ g ∧ g < b ∧ b < q ∧ RowT X5 w.heap.size va n vc hh.sp ∧ True) := by
    obtain ⟨hb, b0, b1, b2, l0, l1, l2, r0, _⟩ := HX4.out
    obtain ⟨st, bn⟩ := HN.out
    exact ⟨st.below _ _ (by omega) hb, b0.sto st (by omega), b1.sto st (by omega), bn, l0, l1, l2, r0.stoB st b2 (by decide), trivial⟩
  clear HN HX4
  have q0 : X5.cell? ⟨q, 0, none⟩ = some (.bool true) := by
    have h := Box.cell (HX5.out.2.2.2.1) 0 rfl
    rw [← hcn]; exact h
  have q1 : X5.cell? ⟨q, 1, none⟩ = some (.int .i64 hh.ak) := by
    have h := Box.cell (HX5.out.2.2.2.1) 1 rfl
    exact h
  have q2 : X5.cell? ⟨q, 2, none⟩ = some (.bool false) := by
    have h := Box.cell (HX5.out.2.2.2.1) 2 rfl
    rw [← hold]; exact h
  have q6 : X5.cell? ⟨q, 6, none⟩ = some (.int .i64 hh.rtt) := by
    have h := Box.cell (HX5.out.2.2.2.1) 6 rfl
    exact h
  have q8 : X5.cell? ⟨q, 8, none⟩ = some (.slice va n vc) := by
    have h := Box.cell (HX5.out.2.2.2.1) 8 rfl
    rw [← hn]; exact h
  have k0 := Box.cell (HX5.out.2.1) 0 rfl
  have k1 := Box.cell (HX5.out.2.1) 1 rfl
  have hlen := (HX5.out.2.2.2.2.2.2.2.1).len
  have cC := check_any va vc hh.sp X5 (HX5.out.2.2.2.2.2.2.2.1).tims
  rw [show errI hh.sp = 0 from by unfold errI; rw [if_pos hchk], hn] at cC
  go_wp2_with fail
  refine cC.mono ?_
  rintro e w9 ⟨rfl, hB⟩
  have HX6 : Hid (Below w.heap.size w w9 ∧ Box w9 g 24 (asL a) ∧ Box w9 b 28 (sgL s k) ∧ Box w9 q 31 (hcL (hcOf hh va vc)) ∧ w.heap.size ≤ g ∧ g < b ∧ b < q ∧ RowT w9 w.heap.size va n vc hh.sp ∧ True) := by
    obtain ⟨hb, b0, b1, b2, l0, l1, l2, r0, _⟩ := HX5.out
    exact ⟨Below.on hb hB, b0.later hB, b1.later hB, b2.later hB, l0, l1, l2, r0.below hB (Nat.le_refl _), trivial⟩
  clear hB cC q0 q1 q2 q6 q8 k0 k1 hlen HX5
  have q1 : w9.cell? ⟨q, 1, none⟩ = some (.int .i64 hh.ak) := by
    have h := Box.cell (HX6.out.2.2.2.1) 1 rfl
    exact h
  have q2 : w9.cell? ⟨q, 2, none⟩ = some (.bool false) := by
    have h := Box.cell (HX6.out.2.2.2.1) 2 rfl
    rw [← hold]; exact h
  have q8 : w9.cell? ⟨q, 8, none⟩ = some (.slice va n vc) := by
    have h := Box.cell (HX6.out.2.2.2.1) 8 rfl
    rw [← hn]; exact h
  have k0 := Box.cell (HX6.out.2.1) 0 rfl
  have k1 := Box.cell (HX6.out.2.1) 1 rfl
  have HT : Hid (TimsAt w9 va hh.sp ∧ Below w.heap.size w w9) := ⟨(HX6.out.2.2.2.2.2.2.2.1).tims, HX6.out.1⟩
  have hml : n ≤ 9223372036854775807 := by rw [← hn]; exact HT.out.1.1
  clear HX6
  go_wp2_with fail
  go_loopw [6] (fun vi wr => ∃ (i k : Nat), vi = .int .i64 (i : Int) ∧ i ≤ n ∧ wr = w9.drewN k) (fun vi _ => n - (intOf vi).toNat)
  case atStart => exact ⟨0, 0, rfl, Nat.zero_le _, rfl⟩
  case round =>
    obtain ⟨i, k, rfl, hin, rfl⟩ := hrel
    by_cases hlt : i < n
    · have hi' : i < hh.sp.length := by omega
      obtain ⟨kb, ko, e, hc0, hc1⟩ := HT.out.1.2 i hi'
      subst e
      have hx := hin2 _ (List.getElem_mem hi')
      obtain ⟨f, hf⟩ : ∃ f, (hh.sp[i]?.getD (0, 0)).1 = f := ⟨_, rfl⟩
      obtain ⟨t, ht⟩ : ∃ t, (hh.sp[i]?.getD (0, 0)).2 = t := ⟨_, rfl⟩
      rw [hf] at hc0
      rw [ht] at hc1
      rw [List.getElem?_eq_getElem hi'] at hf ht
      simp only [Option.getD_some] at hf ht
      rw [hf, ht] at hx
      have e1 : decide (f < hh.ak) = false := decide_eq_false (by omega)
      have e2 : decide (a.nxt < t) = false := decide_eq_false (by omega)
      have hlt' : (i : Int) < (n : Int) := by omega
      clear hx hf ht hi'
      go_upto_region 9 with fail
      go_quiet (fail)
      go_wp2_with fail
      go_roundw
      case rel => exact ⟨i + 1, _, by go_num, by omega, rfl⟩
      case measure => simp [intOf]; omega
    · obtain rfl : i = n := by omega
      have hge : ¬ ((i : Int) < (i : Int)) := by omega
      go_wp2_with fail
      refine (heads_is _).mono ?_
      rintro e w10 ⟨rfl, hB⟩
      go_wp2_with fail
      go_ret
      exact ⟨rfl, Below.on (below_drewN HT.out.2 _) hB⟩
set_option maxRecDepth 100000 in
set_option maxHeartbeats 4000000 in
theorem wi_o (a : Ak.As) (s : Seg) (k : Hs) (w : World) (ha : AsI a) (hK : Hid (BlksAt w k.ka s.sk ∧ s.sk.length * 16 ≤ 281474976710656)) {hh : Ak.Hr} (hH : Ak.hear a (snOf s) = hh) {n : Nat} (hn : hh.sp.length = n) (hcn : hh.cn = true) (hold : hh.old = true) (h1 : decide (hh.ak < a.una) = false) (h2 : decide (a.nxt < hh.ak) = false) (h3 : decide (hh.rtt < 0) = false) (hchk : chk (-1) hh.sp = true) (hin2 : ∀ c ∈ hh.sp, hh.ak ≤ c.1 ∧ c.2 ≤ a.nxt) (h4 : (hh.ak != a.una) = false) : Calls Try.prog 5 #[agv (asL a), agv (sgL s k)] w fun e w' => e = .returned (.bool true) ∧ Below w.heap.size w w' := by
  go_enter Try.func5, Try.ntmps5
  go_wp2_with (first | (refine wpS_box rfl rfl rfl ?_))
  intro X1 g HN
  have HX1 : Hid (Below w.heap.size w X1 ∧ Box X1 g 24 (asL a) ∧ w.heap.size ≤ g ∧ True) := by
    have hb := Below.refl w.heap.size w
    obtain ⟨hg, hb2, bn⟩ := HN.out
    have hz := hb.size
    exact ⟨Below.on hb hb2, bn, by omega, trivial⟩
  clear HN 
  go_wp2_with (first | (refine wpS_box rfl rfl rfl ?_))
  intro X2 b HN
  have HX2 : Hid (Below w.heap.size w X2 ∧ Box X2 g 24 (asL a) ∧ Box X2 b 28 (sgL s k) ∧ w.heap.size ≤ g ∧ g < b ∧ True) := by
    obtain ⟨hb, b0, l0, _⟩ := HX1.out
    obtain ⟨hg, hb2, bn⟩ := HN.out
    have z0 := b0.lt
    exact ⟨Below.on hb hb2, b0.later hb2, bn, l0, by omega, trivial⟩
  clear HN HX1
  go_wp2_with (first | (refine wpS_load rfl rfl rfl (HX2.out.2.1) isS24 ?_) | (refine wpS_load rfl rfl rfl (HX2.out.2.2.1) isS28 ?_) | fail)
  refine (weigh_is a s k ha X2 (hK.out.1.later HX2.out.1) hK.out.2).mono ?_
  unfold WgE
  rw [hH, hn]
  rintro e w3 ⟨va, vc, rfl, hR, hB⟩
  have HX3 : Hid (Below w.heap.size w w3 ∧ Box w3 g 24 (asL a) ∧ Box w3 b 28 (sgL s k) ∧ w.heap.size ≤ g ∧ g < b ∧ RowT w3 w.heap.size va n vc hh.sp ∧ True) := by
    obtain ⟨hb, b0, b1, l0, l1, _⟩ := HX2.out
    exact ⟨Below.on hb hB, b0.later hB, b1.later hB, l0, l1, hR.mono hb.size, trivial⟩
  clear hB hR HX2
  go_wp2_with (first | (refine wpS_alloc rfl rfl zero31 ?_))
  intro X4 q HN
  have HX4 : Hid (Below w.heap.size w X4 ∧ Box X4 g 24 (asL a) ∧ Box X4 b 28 (sgL s k) ∧ Box X4 q 31 (hcL hcZ) ∧ w.heap.size ≤ g ∧ g < b ∧ b < q ∧ RowT X4 w.heap.size va n vc hh.sp ∧ True) := by
    obtain ⟨hb, b0, b1, l0, l1, r0, _⟩ := HX3.out
    obtain ⟨hg, hb2, bn⟩ := HN.out
    have z0 := b0.lt
    have z1 := b1.lt
    exact ⟨Below.on hb hb2, b0.later hb2, b1.later hb2, bn, l0, l1, by omega, r0.below hb2 (Nat.le_refl _), trivial⟩
  clear HN HX3
  go_wp2_with (first | (refine wpS_store rfl rfl rfl rfl rfl (HX4.out.2.2.2.1) rfl isS31 (hcL_one _) ?_))
  intro X5 HN
  have HX5 : Hid (Below w.heap.size w X5 ∧ Box X5 g 24 (asL a) ∧ Box X5 b 28 (sgL s k) ∧ Box X5 q 31 (hcL (hcOf hh va vc)) ∧ w.heap.size ≤ g ∧ g < b ∧ b < q ∧ RowT X5 w.heap.size va n vc hh.sp ∧ True) := by
    obtain ⟨hb, b0, b1, b2, l0, l1, l2, r0, _⟩ := HX4.out
    obtain ⟨st, bn⟩ := HN.out
    exact ⟨st.below _ _ (by omega) hb, b0.sto st (by omega), b1.sto st (by omega), bn, l0, l1, l2, r0.stoB st b2 (by decide), trivial⟩
  clear HN HX4
  have q0 : X5.cell? ⟨q, 0, none⟩ = some (.bool true) := by
    have h := Box.cell (HX5.out.2.2.2.1) 0 rfl
    rw [← hcn]; exact h
  have q1 : X5.cell? ⟨q, 1, none⟩ = some (.int .i64 hh.ak) := by
    have h := Box.cell (HX5.out.2.2.2.1) 1 rfl
    exact h
  have q2 : X5.cell? ⟨q, 2, none⟩ = some (.bool true) := by
    have h := Box.cell (HX5.out.2.2.2.1) 2 rfl
    rw [← hold]; exact h
  have q6 : X5.cell? ⟨q, 6, none⟩ = some (.int .i64 hh.rtt) := by
    have h := Box.cell (HX5.out.2.2.2.1) 6 rfl
    exact h
  have q8 : X5.cell? ⟨q, 8, none⟩ = some (.slice va n vc) := by
    have h := Box.cell (HX5.out.2.2.2.1) 8 rfl
    rw [← hn]; exact h
  have k0 := Box.cell (HX5.out.2.1) 0 rfl
  have k1 := Box.cell (HX5.out.2.1) 1 rfl
  have hlen := (HX5.out.2.2.2.2.2.2.2.1).len
  have cC := check_any va vc hh.sp X5 (HX5.out.2.2.2.2.2.2.2.1).tims
  rw [show errI hh.sp = 0 from by unfold errI; rw [if_pos hchk], hn] at cC
  go_wp2_with fail
  refine cC.mono ?_
  rintro e w9 ⟨rfl, hB⟩
  have HX6 : Hid (Below w.heap.size w w9 ∧ Box w9 g 24 (asL a) ∧ Box w9 b 28 (sgL s k) ∧ Box w9 q 31 (hcL (hcOf hh va vc)) ∧ w.heap.size ≤ g ∧ g < b ∧ b < q ∧ RowT w9 w.heap.size va n vc hh.sp ∧ True) := by
    obtain ⟨hb, b0, b1, b2, l0, l1, l2, r0, _⟩ := HX5.out
    exact ⟨Below.on hb hB, b0.later hB, b1.later hB, b2.later hB, l0, l1, l2, r0.below hB (Nat.le_refl _), trivial⟩
  clear hB cC q0 q1 q2 q6 q8 k0 k1 hlen HX5
  have q1 : w9.cell? ⟨q, 1, none⟩ = some (.int .i64 hh.ak) := by
    have h := Box.cell (HX6.out.2.2.2.1) 1 rfl
    exact h
  have q2 : w9.cell? ⟨q, 2, none⟩ = some (.bool true) := by
    have h := Box.cell (HX6.out.2.2.2.1) 2 rfl
    rw [← hold]; exact h
  have q8 : w9.cell? ⟨q, 8, none⟩ = some (.slice va n vc) := by
    have h := Box.cell (HX6.out.2.2.2.1) 8 rfl
    rw [← hn]; exact h
  have k0 := Box.cell (HX6.out.2.1) 0 rfl
  have k1 := Box.cell (HX6.out.2.1) 1 rfl
  have HT : Hid (TimsAt w9 va hh.sp ∧ Below w.heap.size w w9) := ⟨(HX6.out.2.2.2.2.2.2.2.1).tims, HX6.out.1⟩
  have hml : n ≤ 9223372036854775807 := by rw [← hn]; exact HT.out.1.1
  clear HX6
  go_wp2_with fail
  go_loopw [6] (fun vi wr => ∃ (i k : Nat), vi = .int .i64 (i : Int) ∧ i ≤ n ∧ wr = w9.drewN k) (fun vi _ => n - (intOf vi).toNat)
  case atStart => exact ⟨0, 0, rfl, Nat.zero_le _, rfl⟩
  case round =>
    obtain ⟨i, k, rfl, hin, rfl⟩ := hrel
    by_cases hlt : i < n
    · have hi' : i < hh.sp.length := by omega
      obtain ⟨kb, ko, e, hc0, hc1⟩ := HT.out.1.2 i hi'
      subst e
      have hx := hin2 _ (List.getElem_mem hi')
      obtain ⟨f, hf⟩ : ∃ f, (hh.sp[i]?.getD (0, 0)).1 = f := ⟨_, rfl⟩
      obtain ⟨t, ht⟩ : ∃ t, (hh.sp[i]?.getD (0, 0)).2 = t := ⟨_, rfl⟩
      rw [hf] at hc0
      rw [ht] at hc1
      rw [List.getElem?_eq_getElem hi'] at hf ht
      simp only [Option.getD_some] at hf ht
      rw [hf, ht] at hx
      have e1 : decide (f < hh.ak) = false := decide_eq_false (by omega)
      have e2 : decide (a.nxt < t) = false := decide_eq_false (by omega)
      have hlt' : (i : Int) < (n : Int) := by omega
      clear hx hf ht hi'
      go_upto_region 9 with fail
      go_quiet (fail)
      go_wp2_with fail
      go_roundw
      case rel => exact ⟨i + 1, _, by go_num, by omega, rfl⟩
      case measure => simp [intOf]; omega
    · obtain rfl : i = n := by omega
      have hge : ¬ ((i : Int) < (i : Int)) := by omega
      go_wp2_with fail
      refine (heads_is _).mono ?_
      rintro e w10 ⟨rfl, hB⟩
      go_wp2_with fail
      go_ret
      exact ⟨rfl, Below.on (below_drewN HT.out.2 _) hB⟩

theorem within_walk (a : Ak.As) (s : Seg) (k : Hs) (w : World) (ha : AsI a) (hK : BlksAt w k.ka s.sk ∧ s.sk.length * 16 ≤ 281474976710656) : Calls Try.prog 5 #[agv (asL a), agv (sgL s k)] w fun e w' => e = .returned (.bool true) ∧ Below w.heap.size w w' := by
  cases hc : Ak.cntB a (snOf s) with
  | false =>
    have hz := Ak.without hc
    exact wi_no a s k w ha hK hz rfl rfl rfl rfl rfl rfl rfl
  | true =>
    obtain ⟨k1, k2, k3, k4, k5, k6, k7⟩ := Ak.within hc
    cases ho : (Ak.hear a (snOf s)).old with
    | false => exact wi_y a s k w ha hK rfl rfl k1 ho (decide_eq_false (by omega)) (decide_eq_false (by omega)) (decide_eq_false (by omega)) k5 k7
    | true => exact wi_o a s k w ha hK rfl rfl k1 ho (decide_eq_false (by omega)) (decide_eq_false (by omega)) (decide_eq_false (by omega)) k5 k7 (by simpa using k6 ho)
end Go.Proofs.Ytdodagpkkjpdiaa
