/- The contracts of the document's Pipe, Sacked, High and Lost. -/
import Derived.Test.YtokiklaffbdomaaRefMv
import Derived.Test.YtokiklaffbdomaaWholeP
import Derived.Test.YtokiklaffbdomaaDropsP
namespace Go.Proofs.Ytokiklaffbdomaa
open Go.ChangeShapes Go.WideShapes Go.ChangeAt Go.RowKit Go.Shelf
set_option linter.unusedVariables false
attribute [local go_sem] Oper.semAt_some

theorem maxT_le {l : List Rc} {B : Int} (h : ∀ x ∈ l, x.t ≤ B) : ∀ m, m ≤ B → maxT m l ≤ B := by
  induction l with
  | nil => intro m hm; exact hm
  | cons x r ih =>
    intro m hm
    have := h x List.mem_cons_self
    exact ih (fun y hy => h y (List.mem_cons_of_mem _ hy)) (max m x.t) (by omega)
theorem high_step {ts : List Rc} (h : okB ts = true) {i : Nat} (hi : i < ts.length) : maxT 0 ((ts.take (i + 1)).filter sackB) = (if (nth ts i).sk = true then (nth ts i).t else maxT 0 ((ts.take i).filter sackB)) := by
  rw [filter_take hi]
  unfold sackB
  split
  · rw [maxT_snoc]
    have h1 : maxT 0 ((ts.take i).filter fun x => x.sk) ≤ (nth ts i).t := by
      have h0 := okR_out (okB_at h hi)
      refine maxT_le (fun x hx => ?_) 0 (by omega)
      have hm := (List.mem_filter.1 hx).1
      obtain ⟨j, hj, rfl⟩ := List.mem_iff_getElem.1 hm
      have hj' : j < i := by simp at hj; omega
      have := okB_mono h i j hj' hi
      have e : (ts.take i)[j] = nth ts j := by simp [nth, show j < ts.length by omega]
      rw [e]; omega
    omega
  · simp

set_option maxRecDepth 100000 in
set_option maxHeartbeats 4000000 in
theorem refPipe_no (A : Option Addr) (cap : Nat) (ts : List Rc) (w : World) (hT : RecsAt w A ts) (hc : okB ts = false) :
    Calls Try.prog 25 #[.slice A ts.length cap] w fun e W' => e = .returned (.int .i64 0) ∧ Below w.heap.size w W' := by
  have hml : ts.length ≤ 9223372036854775807 := hT.1
  have c1 := refCheck_no A cap ts w hT hc
  clear hc hT
  go_enter Try.func25, Try.ntmps25
  go_wp2_with fail
  go_loopw [3, 4] (fun vn vi wr => vn = .int .i64 0 ∧ vi = .int .i64 0 ∧ wr = w) (fun _ _ _ => 0)
  case atStart => exact ⟨rfl, rfl, rfl⟩
  case round =>
    obtain ⟨rfl, rfl, rfl⟩ := hrel
    rcases Nat.eq_zero_or_pos ts.length with h0 | h0
    · have h0' : ¬ (0 : Int) < (ts.length : Int) := by omega
      go_wp2_with fail
      go_ret
      exact ⟨rfl, Below.refl _ _⟩
    · have h0' : (0 : Int) < (ts.length : Int) := by omega
      go_wp2_with fail
      refine c1.mono ?_
      rintro e w1 ⟨rfl, hB1⟩
      go_wp2_with fail
      go_ret
      exact ⟨rfl, hB1⟩

set_option maxRecDepth 100000 in
set_option maxHeartbeats 4000000 in
theorem refPipe_yes (A : Option Addr) (cap : Nat) (ts : List Rc) (w : World) (hT : RecsAt w A ts) (hc : okB ts = true) :
    Calls Try.prog 25 #[.slice A ts.length cap] w fun e W' => e = .returned (.int .i64 (sizeL (ts.filter pipeB))) ∧ Below w.heap.size w W' := by
  have hml : ts.length ≤ 65536 := (okB_iff.1 hc).1
  have HC : Hid (∀ U, Below w.heap.size w U → Calls Try.prog 20 #[.slice A ts.length cap] U fun e W' => e = .returned (.int .i64 0) ∧ Below U.heap.size U W') := fun U hU => refCheck_ok A cap ts U (hT.later hU) hc
  have HT : Hid (RecsAt w A ts ∧ okB ts = true) := ⟨hT, hc⟩
  clear hc hT
  go_enter Try.func25, Try.ntmps25
  go_wp2_with fail
  go_loopw [3, 4] (fun vn vi wr => ∃ i : Nat, i ≤ ts.length ∧ vn = .int .i64 (sizeL ((ts.take i).filter pipeB)) ∧ vi = .int .i64 i ∧ Hid (Below w.heap.size w wr)) (fun _ vi _ => ts.length - (intOf vi).toNat)
  case atStart => exact ⟨0, Nat.zero_le _, rfl, rfl, Below.refl _ _⟩
  case round =>
    obtain ⟨i, hi, rfl, rfl, HB⟩ := hrel
    by_cases hlt : i < ts.length
    · have hlt' : (i : Int) < (ts.length : Int) := by omega
      have c1 := HC.out wr HB.out
      go_wp2_with fail
      refine c1.mono ?_
      rintro e W1 ⟨rfl, hB1⟩
      have HB1 : Hid (Below w.heap.size w W1) := Below.on HB.out hB1
      obtain ⟨b, o, rfl, hl⟩ := (HT.out.1.later HB1.out).2 i hlt
      have hok := okR_out (okB_at HT.out.2 hlt)
      have hsn : sizeL ((ts.take (i + 1)).filter pipeB) = sizeL ((ts.take i).filter pipeB) + (if pipeB (nth ts i) = true then (nth ts i).t - (nth ts i).f else 0) := by
        rw [filter_take hlt, sizeL_append]; split <;> simp [sizeL]
      have hbd : 0 ≤ sizeL ((ts.take i).filter pipeB) ∧ sizeL ((ts.take i).filter pipeB) ≤ 1125899906842625 := by
        have h1 : ∀ y ∈ ts.take i, y.f ≤ y.t := fun y hy => okB_le HT.out.2 y (List.mem_of_mem_take hy)
        have h2 := sizeL_filter pipeB h1
        have h3 := size_take_bound HT.out.2 i
        exact ⟨sizeL_pos (fun y hy => h1 y (List.mem_filter.1 hy).1), by omega⟩

      obtain ⟨x, hx⟩ : ∃ x, nth ts i = x := ⟨_, rfl⟩
      rw [hx] at hl hok hsn
      obtain ⟨o1, o2, o3, _⟩ := hok
      obtain ⟨k0, k1, k2, k3, k4, k5, k6, k7, k8, k9, k10, k11⟩ := hl.out
      clear c1 hB1 hx hl k2 k3 k4 k8 k9 k10 k11
      obtain ⟨s0, hs0⟩ : ∃ s0, sizeL ((ts.take i).filter pipeB) = s0 := ⟨_, rfl⟩
      rw [hs0] at hsn hbd ⊢
      obtain ⟨hb1, hb2⟩ := hbd
      have HSN : Hid (_ = _) := hsn
      clear hsn hs0
      cases hsk : x.sk with
      | true =>
        rw [hsk] at k5
        have hp : Hid (pipeB x = false) := by unfold Hid pipeB; rw [hsk]; rfl
        clear hsk
        go_wp2_with fail
        go_roundw
        case rel => exact ⟨i + 1, by omega, (by rw [HSN.out, hp.out]; simp), by go_num, HB1.out⟩
        case measure => simp [intOf]; omega
      | false =>
        rw [hsk] at k5
        cases hlo : x.lo with
        | false =>
          rw [hlo] at k6
          have hp : Hid (pipeB x = true) := by unfold Hid pipeB; rw [hsk, hlo]; rfl
          clear hsk hlo
          go_upto_region 6 with fail
          go_quiet (fail)
          go_wp2_with fail
          go_roundw
          case rel => exact ⟨i + 1, by omega, (by rw [HSN.out, hp.out]; simp; omega), by go_num, below_drewN HB1.out _⟩
          case measure => simp [intOf]; omega
        | true =>
          rw [hlo] at k6
          cases hag : x.ag with
          | true =>
            rw [hag] at k7
            have hp : Hid (pipeB x = true) := by unfold Hid pipeB; rw [hsk, hlo, hag]; rfl
            clear hsk hlo
            go_upto_region 6 with fail
            go_quiet (fail)
            go_wp2_with fail
            go_roundw
            case rel => exact ⟨i + 1, by omega, (by rw [HSN.out, hp.out]; simp; omega), by go_num, below_drewN HB1.out _⟩
            case measure => simp [intOf]; omega
          | false =>
            rw [hag] at k7
            have hp : Hid (pipeB x = false) := by unfold Hid pipeB; rw [hsk, hlo, hag]; rfl
            clear hsk hlo hag
            go_wp2_with fail
            go_roundw
            case rel => exact ⟨i + 1, by omega, (by rw [HSN.out, hp.out]; simp), by go_num, HB1.out⟩
            case measure => simp [intOf]; omega

    · obtain rfl : i = ts.length := by omega
      have HE : Hid ((sizeL ((ts.take ts.length).filter pipeB)) = sizeL (ts.filter pipeB)) := by unfold Hid; rw [List.take_length]
      have hlt' : ¬ ((ts.length : Nat) : Int) < (ts.length : Int) := by omega
      go_wp2_with fail
      go_ret
      exact ⟨ret_int (by first | rfl | exact HE.out), HB.out⟩

set_option maxRecDepth 100000 in
set_option maxHeartbeats 4000000 in
theorem refSacked_no (A : Option Addr) (cap : Nat) (ts : List Rc) (w : World) (hT : RecsAt w A ts) (hc : okB ts = false) :
    Calls Try.prog 31 #[.slice A ts.length cap] w fun e W' => e = .returned (.int .i64 0) ∧ Below w.heap.size w W' := by
  have hml : ts.length ≤ 9223372036854775807 := hT.1
  have c1 := refCheck_no A cap ts w hT hc
  clear hc hT
  go_enter Try.func31, Try.ntmps31
  go_wp2_with fail
  go_loopw [3, 4] (fun vn vi wr => vn = .int .i64 0 ∧ vi = .int .i64 0 ∧ wr = w) (fun _ _ _ => 0)
  case atStart => exact ⟨rfl, rfl, rfl⟩
  case round =>
    obtain ⟨rfl, rfl, rfl⟩ := hrel
    rcases Nat.eq_zero_or_pos ts.length with h0 | h0
    · have h0' : ¬ (0 : Int) < (ts.length : Int) := by omega
      go_wp2_with fail
      go_ret
      exact ⟨rfl, Below.refl _ _⟩
    · have h0' : (0 : Int) < (ts.length : Int) := by omega
      go_wp2_with fail
      refine c1.mono ?_
      rintro e w1 ⟨rfl, hB1⟩
      go_wp2_with fail
      go_ret
      exact ⟨rfl, hB1⟩

set_option maxRecDepth 100000 in
set_option maxHeartbeats 4000000 in
theorem refSacked_yes (A : Option Addr) (cap : Nat) (ts : List Rc) (w : World) (hT : RecsAt w A ts) (hc : okB ts = true) :
    Calls Try.prog 31 #[.slice A ts.length cap] w fun e W' => e = .returned (.int .i64 (((ts.filter sackB).length : Int))) ∧ Below w.heap.size w W' := by
  have hml : ts.length ≤ 65536 := (okB_iff.1 hc).1
  have HC : Hid (∀ U, Below w.heap.size w U → Calls Try.prog 20 #[.slice A ts.length cap] U fun e W' => e = .returned (.int .i64 0) ∧ Below U.heap.size U W') := fun U hU => refCheck_ok A cap ts U (hT.later hU) hc
  have HT : Hid (RecsAt w A ts ∧ okB ts = true) := ⟨hT, hc⟩
  clear hc hT
  go_enter Try.func31, Try.ntmps31
  go_wp2_with fail
  go_loopw [3, 4] (fun vn vi wr => ∃ i : Nat, i ≤ ts.length ∧ vn = .int .i64 ((((ts.take i).filter sackB).length : Int)) ∧ vi = .int .i64 i ∧ Hid (Below w.heap.size w wr)) (fun _ vi _ => ts.length - (intOf vi).toNat)
  case atStart => exact ⟨0, Nat.zero_le _, rfl, rfl, Below.refl _ _⟩
  case round =>
    obtain ⟨i, hi, rfl, rfl, HB⟩ := hrel
    by_cases hlt : i < ts.length
    · have hlt' : (i : Int) < (ts.length : Int) := by omega
      have c1 := HC.out wr HB.out
      go_wp2_with fail
      refine c1.mono ?_
      rintro e W1 ⟨rfl, hB1⟩
      have HB1 : Hid (Below w.heap.size w W1) := Below.on HB.out hB1
      obtain ⟨b, o, rfl, hl⟩ := (HT.out.1.later HB1.out).2 i hlt
      have hok := okR_out (okB_at HT.out.2 hlt)
      have hsn : (((ts.take (i + 1)).filter sackB).length : Int) = (((ts.take i).filter sackB).length : Int) + (if (nth ts i).sk = true then 1 else 0) := by
        rw [filter_take hlt]; unfold sackB; split <;> simp
      have hbd : ((ts.take i).filter sackB).length ≤ 65536 := by
        have h1 := List.length_filter_le sackB (ts.take i)
        simp at h1; omega

      obtain ⟨x, hx⟩ : ∃ x, nth ts i = x := ⟨_, rfl⟩
      rw [hx] at hl hok hsn
      obtain ⟨o1, o2, o3, _⟩ := hok
      obtain ⟨k0, k1, k2, k3, k4, k5, k6, k7, k8, k9, k10, k11⟩ := hl.out
      clear c1 hB1 hx hl k2 k3 k4 k8 k9 k10 k11
      cases hsk : x.sk with
      | true =>
        rw [hsk] at k5 hsn
        have HSN : Hid (_ = _) := hsn
        clear hsk hsn
        go_wp2_with fail
        go_roundw
        case rel => exact ⟨i + 1, by omega, (by rw [HSN.out]; first | rfl | (simp; done) | (congr 1; simp; done) | go_num), by go_num, HB1.out⟩
        case measure => simp [intOf]; omega
      | false =>
        rw [hsk] at k5 hsn
        have HSN : Hid (_ = _) := hsn
        clear hsk hsn
        go_wp2_with fail
        go_roundw
        case rel => exact ⟨i + 1, by omega, (by rw [HSN.out]; first | rfl | (simp; done) | (congr 1; simp; done) | go_num), by go_num, HB1.out⟩
        case measure => simp [intOf]; omega

    · obtain rfl : i = ts.length := by omega
      have HE : Hid (((((ts.take ts.length).filter sackB).length : Int)) = ((ts.filter sackB).length : Int)) := by unfold Hid; rw [List.take_length]
      have hlt' : ¬ ((ts.length : Nat) : Int) < (ts.length : Int) := by omega
      go_wp2_with fail
      go_ret
      exact ⟨ret_int (by first | rfl | exact HE.out), HB.out⟩

set_option maxRecDepth 100000 in
set_option maxHeartbeats 4000000 in
theorem refHigh_no (A : Option Addr) (cap : Nat) (ts : List Rc) (w : World) (hT : RecsAt w A ts) (hc : okB ts = false) :
    Calls Try.prog 29 #[.slice A ts.length cap] w fun e W' => e = .returned (.int .i64 0) ∧ Below w.heap.size w W' := by
  have hml : ts.length ≤ 9223372036854775807 := hT.1
  have c1 := refCheck_no A cap ts w hT hc
  clear hc hT
  go_enter Try.func29, Try.ntmps29
  go_wp2_with fail
  go_loopw [3, 4] (fun vn vi wr => vn = .int .i64 0 ∧ vi = .int .i64 0 ∧ wr = w) (fun _ _ _ => 0)
  case atStart => exact ⟨rfl, rfl, rfl⟩
  case round =>
    obtain ⟨rfl, rfl, rfl⟩ := hrel
    rcases Nat.eq_zero_or_pos ts.length with h0 | h0
    · have h0' : ¬ (0 : Int) < (ts.length : Int) := by omega
      go_wp2_with fail
      go_ret
      exact ⟨rfl, Below.refl _ _⟩
    · have h0' : (0 : Int) < (ts.length : Int) := by omega
      go_wp2_with fail
      refine c1.mono ?_
      rintro e w1 ⟨rfl, hB1⟩
      go_wp2_with fail
      go_ret
      exact ⟨rfl, hB1⟩

set_option maxRecDepth 100000 in
set_option maxHeartbeats 4000000 in
theorem refHigh_yes (A : Option Addr) (cap : Nat) (ts : List Rc) (w : World) (hT : RecsAt w A ts) (hc : okB ts = true) :
    Calls Try.prog 29 #[.slice A ts.length cap] w fun e W' => e = .returned (.int .i64 (maxT 0 (ts.filter sackB))) ∧ Below w.heap.size w W' := by
  have hml : ts.length ≤ 65536 := (okB_iff.1 hc).1
  have HC : Hid (∀ U, Below w.heap.size w U → Calls Try.prog 20 #[.slice A ts.length cap] U fun e W' => e = .returned (.int .i64 0) ∧ Below U.heap.size U W') := fun U hU => refCheck_ok A cap ts U (hT.later hU) hc
  have HT : Hid (RecsAt w A ts ∧ okB ts = true) := ⟨hT, hc⟩
  clear hc hT
  go_enter Try.func29, Try.ntmps29
  go_wp2_with fail
  go_loopw [3, 4] (fun vn vi wr => ∃ i : Nat, i ≤ ts.length ∧ vn = .int .i64 (maxT 0 ((ts.take i).filter sackB)) ∧ vi = .int .i64 i ∧ Hid (Below w.heap.size w wr)) (fun _ vi _ => ts.length - (intOf vi).toNat)
  case atStart => exact ⟨0, Nat.zero_le _, rfl, rfl, Below.refl _ _⟩
  case round =>
    obtain ⟨i, hi, rfl, rfl, HB⟩ := hrel
    by_cases hlt : i < ts.length
    · have hlt' : (i : Int) < (ts.length : Int) := by omega
      have c1 := HC.out wr HB.out
      go_wp2_with fail
      refine c1.mono ?_
      rintro e W1 ⟨rfl, hB1⟩
      have HB1 : Hid (Below w.heap.size w W1) := Below.on HB.out hB1
      obtain ⟨b, o, rfl, hl⟩ := (HT.out.1.later HB1.out).2 i hlt
      have hok := okR_out (okB_at HT.out.2 hlt)
      have hsn : maxT 0 ((ts.take (i + 1)).filter sackB) = (if (nth ts i).sk = true then (nth ts i).t else maxT 0 ((ts.take i).filter sackB)) := high_step HT.out.2 hlt

      obtain ⟨x, hx⟩ : ∃ x, nth ts i = x := ⟨_, rfl⟩
      rw [hx] at hl hok hsn
      obtain ⟨o1, o2, o3, _⟩ := hok
      obtain ⟨k0, k1, k2, k3, k4, k5, k6, k7, k8, k9, k10, k11⟩ := hl.out
      clear c1 hB1 hx hl k2 k3 k4 k8 k9 k10 k11
      cases hsk : x.sk with
      | true =>
        rw [hsk] at k5 hsn
        have HSN : Hid (_ = _) := hsn
        clear hsk hsn
        go_wp2_with fail
        go_roundw
        case rel => exact ⟨i + 1, by omega, (by rw [HSN.out]; first | rfl | (simp; done) | (congr 1; simp; done) | go_num), by go_num, HB1.out⟩
        case measure => simp [intOf]; omega
      | false =>
        rw [hsk] at k5 hsn
        have HSN : Hid (_ = _) := hsn
        clear hsk hsn
        go_wp2_with fail
        go_roundw
        case rel => exact ⟨i + 1, by omega, (by rw [HSN.out]; first | rfl | (simp; done) | (congr 1; simp; done) | go_num), by go_num, HB1.out⟩
        case measure => simp [intOf]; omega

    · obtain rfl : i = ts.length := by omega
      have HE : Hid ((maxT 0 ((ts.take ts.length).filter sackB)) = maxT 0 (ts.filter sackB)) := by unfold Hid; rw [List.take_length]
      have hlt' : ¬ ((ts.length : Nat) : Int) < (ts.length : Int) := by omega
      go_wp2_with fail
      go_ret
      exact ⟨ret_int (by first | rfl | exact HE.out), HB.out⟩

set_option maxRecDepth 100000 in
set_option maxHeartbeats 4000000 in
theorem refLost_no (A : Option Addr) (cap : Nat) (ts : List Rc) (w : World) (hT : RecsAt w A ts) (hc : okB ts = false) :
    Calls Try.prog 27 #[.slice A ts.length cap] w fun e W' => e = .returned (.int .i64 (-1)) ∧ Below w.heap.size w W' := by
  have hml : ts.length ≤ 9223372036854775807 := hT.1
  have c1 := refCheck_no A cap ts w hT hc
  clear hc hT
  go_enter Try.func27, Try.ntmps27
  go_wp2_with fail
  go_loopw [3] (fun vi wr => vi = .int .i64 0 ∧ wr = w) (fun _ _ => 0)
  case atStart => exact ⟨rfl, rfl⟩
  case round =>
    obtain ⟨rfl, rfl⟩ := hrel
    rcases Nat.eq_zero_or_pos ts.length with h0 | h0
    · have h0' : ¬ (0 : Int) < (ts.length : Int) := by omega
      go_wp2_with fail
      go_ret
      exact ⟨rfl, Below.refl _ _⟩
    · have h0' : (0 : Int) < (ts.length : Int) := by omega
      go_wp2_with fail
      refine c1.mono ?_
      rintro e w1 ⟨rfl, hB1⟩
      go_wp2_with fail
      go_ret
      exact ⟨rfl, hB1⟩

set_option maxRecDepth 100000 in
set_option maxHeartbeats 4000000 in
theorem refLost_yes (A : Option Addr) (cap : Nat) (ts : List Rc) (w : World) (hT : RecsAt w A ts) (hc : okB ts = true) :
    Calls Try.prog 27 #[.slice A ts.length cap] w fun e W' => e = .returned (.int .i64 (lostI ts)) ∧ Below w.heap.size w W' := by
  have hml : ts.length ≤ 65536 := (okB_iff.1 hc).1
  have HC : Hid (∀ U, Below w.heap.size w U → Calls Try.prog 20 #[.slice A ts.length cap] U fun e W' => e = .returned (.int .i64 0) ∧ Below U.heap.size U W') := fun U hU => refCheck_ok A cap ts U (hT.later hU) hc
  have HL : Hid (lostI ts = (match sel lostB 0 ts with | [] => -1 | q :: _ => (q.1 : Int))) := by unfold Hid lostI; rw [hc]; rfl
  have HT : Hid (RecsAt w A ts) := hT
  clear hc hT
  go_enter Try.func27, Try.ntmps27
  go_wp2_with fail
  go_loopw [3] (fun vi wr => ∃ i : Nat, i ≤ ts.length ∧ vi = .int .i64 i ∧ Hid (sel lostB 0 (ts.take i) = []) ∧ Hid (Below w.heap.size w wr)) (fun vi _ => ts.length - (intOf vi).toNat)
  case atStart => exact ⟨0, Nat.zero_le _, rfl, rfl, Below.refl _ _⟩
  case round =>
    obtain ⟨i, hi, rfl, HS, HB⟩ := hrel
    by_cases hlt : i < ts.length
    · have hlt' : (i : Int) < (ts.length : Int) := by omega
      have c1 := HC.out wr HB.out
      go_wp2_with fail
      refine c1.mono ?_
      rintro e W1 ⟨rfl, hB1⟩
      have HB1 : Hid (Below w.heap.size w W1) := Below.on HB.out hB1
      obtain ⟨b, o, rfl, hl⟩ := (HT.out.later HB1.out).2 i hlt
      have hsn := sel_take (p := lostB) hlt
      rw [HS.out, List.nil_append] at hsn
      have hpre := sel_prefix lostB ts (i + 1)
      obtain ⟨x, hx⟩ : ∃ x, nth ts i = x := ⟨_, rfl⟩
      rw [hx] at hl hsn
      have k6 := hl.out.2.2.2.2.2.2.1
      have k7 := hl.out.2.2.2.2.2.2.2.1
      have HSN : Hid (sel lostB 0 (ts.take (i + 1)) = (if lostB x = true then [(i, x)] else []) ∧ sel lostB 0 (ts.take (i + 1)) <+: sel lostB 0 ts) := ⟨hsn, hpre⟩
      clear c1 hB1 hx hl hsn hpre
      cases hlo : x.lo with
      | false =>
        rw [hlo] at k6
        have HN : Hid (sel lostB 0 (ts.take (i + 1)) = []) := by unfold Hid; rw [HSN.out.1, if_neg (by unfold lostB; rw [hlo]; simp)]
        clear hlo
        go_wp2_with fail
        go_roundw
        case rel => exact ⟨i + 1, by omega, by go_num, HN.out, HB1.out⟩
        case measure => simp [intOf]; omega
      | true =>
        rw [hlo] at k6
        cases hag : x.ag with
        | true =>
          rw [hag] at k7
          have HN : Hid (sel lostB 0 (ts.take (i + 1)) = []) := by unfold Hid; rw [HSN.out.1, if_neg (by unfold lostB; rw [hlo, hag]; decide)]
          clear hlo hag
          go_wp2_with fail
          go_roundw
          case rel => exact ⟨i + 1, by omega, by go_num, HN.out, HB1.out⟩
          case measure => simp [intOf]; omega
        | false =>
          rw [hag] at k7
          have HN : Hid (lostI ts = (i : Int)) := by
            unfold Hid
            obtain ⟨r, hr⟩ := HSN.out.2
            rw [HSN.out.1, if_pos (by unfold lostB; rw [hlo, hag]; rfl)] at hr
            rw [HL.out, ← hr]; rfl
          clear hlo hag
          go_wp2_with fail
          go_ret
          exact ⟨ret_int HN.out.symm, HB1.out⟩
    · obtain rfl : i = ts.length := by omega
      have HE : Hid (lostI ts = -1) := by
        unfold Hid
        have := HS.out
        rw [List.take_length] at this
        rw [HL.out, this]
      have hlt' : ¬ ((ts.length : Nat) : Int) < (ts.length : Int) := by omega
      go_wp2_with fail
      go_ret
      exact ⟨ret_int HE.out.symm, HB.out⟩

theorem refPipe_any (A : Option Addr) (cap : Nat) (ts : List Rc) (w : World) (hT : RecsAt w A ts) :
    Calls Try.prog 25 #[.slice A ts.length cap] w fun e W' => e = .returned (.int .i64 (cntB pipeB ts)) ∧ Below w.heap.size w W' := by
  cases hc : okB ts with
  | false =>
    have := refPipe_no A cap ts w hT hc
    have e : cntB pipeB ts = 0 := by unfold cntB; rw [hc]; rfl
    rw [e]; exact this
  | true =>
    have := refPipe_yes A cap ts w hT hc
    have e : cntB pipeB ts = sizeL (ts.filter pipeB) := by unfold cntB; rw [hc]; rfl
    rw [e]; exact this

theorem refSacked_any (A : Option Addr) (cap : Nat) (ts : List Rc) (w : World) (hT : RecsAt w A ts) :
    Calls Try.prog 31 #[.slice A ts.length cap] w fun e W' => e = .returned (.int .i64 (cntN sackB ts)) ∧ Below w.heap.size w W' := by
  cases hc : okB ts with
  | false =>
    have := refSacked_no A cap ts w hT hc
    have e : cntN sackB ts = 0 := by unfold cntN; rw [hc]; rfl
    rw [e]; exact this
  | true =>
    have := refSacked_yes A cap ts w hT hc
    have e : cntN sackB ts = ((ts.filter sackB).length : Int) := by unfold cntN; rw [hc]; rfl
    rw [e]; exact this

theorem refHigh_any (A : Option Addr) (cap : Nat) (ts : List Rc) (w : World) (hT : RecsAt w A ts) :
    Calls Try.prog 29 #[.slice A ts.length cap] w fun e W' => e = .returned (.int .i64 (highI ts)) ∧ Below w.heap.size w W' := by
  cases hc : okB ts with
  | false =>
    have := refHigh_no A cap ts w hT hc
    have e : highI ts = 0 := by unfold highI; rw [hc]; rfl
    rw [e]; exact this
  | true =>
    have := refHigh_yes A cap ts w hT hc
    have e : highI ts = maxT 0 (ts.filter sackB) := by unfold highI; rw [hc]; rfl
    rw [e]; exact this

theorem refLost_any (A : Option Addr) (cap : Nat) (ts : List Rc) (w : World) (hT : RecsAt w A ts) :
    Calls Try.prog 27 #[.slice A ts.length cap] w fun e W' => e = .returned (.int .i64 (lostI ts)) ∧ Below w.heap.size w W' := by
  cases hc : okB ts with
  | false =>
    have := refLost_no A cap ts w hT hc
    have e : lostI ts = (-1) := by unfold lostI; rw [hc]; rfl
    rw [e]; exact this
  | true =>
    have := refLost_yes A cap ts w hT hc
    exact this
end Go.Proofs.Ytokiklaffbdomaa
