/- The contracts of Oldest and Count. -/
import Derived.Test.YtkbgpbhlcmainaaRen
namespace Go.Proofs.Ytkbgpbhlcmainaa
open Go.ChangeShapes Go.WideShapes Go.ChangeAt Go.RowKit
set_option linter.unusedVariables false

theorem take_all {A : Option Addr} {n c : Nat} {l : List Dg} {w : World} (h : DatsAt w A n c l) : l.take n = l := by rw [← h.len]; exact List.take_length

set_option maxRecDepth 100000 in
set_option maxHeartbeats 2000000 in
theorem oldest_any (A : Option Addr) (n c : Nat) (l : List Dg) (now : Int) (w : World) (hD : DatsAt w A n c l) (hn : I64 now) :
    Calls Try.prog 10 #[.slice A n c, .int .i64 now] w fun e w' => e = .returned (.int .i64 (oldI l now)) ∧ Below w.heap.size w w' := by
  have hr := hD.reach
  have HD : Hid (DatsAt w A n c l) := hD
  have HN : Hid (I64 now) := hn
  clear hD hn
  go_enter Try.func10, Try.ntmps10
  go_wp2_with fail
  go_loopw [5, 12] (fun vm vi wr => ∃ (i : Nat) (m : Int), vi = .int .i64 i ∧ vm = .int .i64 m ∧ i ≤ n ∧ Hid (leastI now (l.take i) = m) ∧ Hid (Below w.heap.size w wr))
    (fun _ vi _ => n - (intOf vi).toNat)
  case atStart => exact ⟨0, now, rfl, rfl, Nat.zero_le _, by simp [leastI, Hid], Below.refl _ _⟩
  case round =>
    obtain ⟨i, m, rfl, rfl, hin, HM, HB⟩ := hrel
    by_cases hlt : i < n
    · obtain ⟨b, o, x, rfl, hx, hok, hc0, hc1⟩ := (HD.out.later HB.out).get i hlt
      have hs : leastI now (l.take (i + 1)) = minI m x.t := by
        rw [take_snoc (by rw [HD.out.len]; exact hlt) hx, least_snoc, HM.out]; rfl
      have HB' : Hid (Below w.heap.size w (wr.alloc (.cells #[.slice x.a x.bs.length x.c, .int .i64 x.t] 26))) := below_more HB.out _
      by_cases hlm : x.t < m
      · have HS : Hid (leastI now (l.take (i + 1)) = x.t) := by unfold Hid; rw [hs, minI, if_pos hlm]
        clear hx hok hs
        go_wp2_with fail
        go_roundw
        case rel => exact ⟨i + 1, x.t, by go_num, rfl, by omega, HS, HB'.out⟩
        case measure => simp [intOf]; omega
      · have HS : Hid (leastI now (l.take (i + 1)) = m) := by unfold Hid; rw [hs, minI, if_neg hlm]
        clear hx hok hs
        go_wp2_with fail
        go_roundw
        case rel => exact ⟨i + 1, m, by go_num, rfl, by omega, HS, HB'.out⟩
        case measure => simp [intOf]; omega
    · obtain rfl : i = n := by omega
      have hM : leastI now l = m := by rw [← take_all HD.out]; exact HM.out
      have hle : m ≤ now := by rw [← hM]; exact least_le _ _
      have hmb : I64 m := by rw [← hM]; exact least_i64 HN.out (fun x hx => (HD.out.all x hx).2)
      have hnb := HN.out
      unfold I64 at hmb hnb
      by_cases hbig : 9223372036854775807 < now - m
      · have HF : Hid (oldI l now = 9223372036854775807) := by unfold Hid oldI ageI; rw [hM, if_pos hbig]
        obtain ⟨q, hq⟩ : ∃ q, IntKind.i64.wrap (now - m) = q := ⟨_, rfl⟩
        have hqn : q < 0 := by rw [← hq, IntKind.wrap_i64]; omega
        clear hM HM hmb hnb hbig hle
        go_wp2_with fail
        go_ret
        exact ⟨by rw [HF.out]; rfl, HB.out⟩
      · have HF : Hid (oldI l now = now - m) := by unfold Hid oldI ageI; rw [hM, if_neg hbig]
        have hq : IntKind.i64.wrap (now - m) = now - m := by rw [IntKind.wrap_i64]; omega
        have hqn : 0 ≤ now - m := by omega
        clear hM HM hmb hnb hbig hle
        go_wp2_with fail
        go_ret
        exact ⟨by rw [HF.out]; rfl, HB.out⟩

set_option maxRecDepth 100000 in
set_option maxHeartbeats 2000000 in
theorem count_any (A : Option Addr) (n c : Nat) (l : List Dg) (da : Option Addr) (dc : Nat) (bs : List Int) (w : World) (hD : DatsAt w A n c l) (hb : BytesAt w da bs) :
    Calls Try.prog 22 #[.slice A n c, .slice da bs.length dc] w fun e w' => e = .returned (.int .i64 (cntN l bs : Nat)) ∧ Below w.heap.size w w' := by
  have hr := hD.reach
  have HD : Hid (DatsAt w A n c l ∧ BytesAt w da bs) := ⟨hD, hb⟩
  clear hD hb
  go_enter Try.func22, Try.ntmps22
  go_wp2_with fail
  go_loopw [5, 10] (fun vm vi wr => ∃ (i m : Nat), vi = .int .i64 i ∧ vm = .int .i64 m ∧ i ≤ n ∧ m ≤ i ∧ Hid (cntN (l.take i) bs = m) ∧ Hid (Below w.heap.size w wr))
    (fun _ vi _ => n - (intOf vi).toNat)
  case atStart => exact ⟨0, 0, rfl, rfl, Nat.zero_le _, Nat.le_refl _, by simp [cntN, Hid], Below.refl _ _⟩
  case round =>
    obtain ⟨i, m, rfl, rfl, hin, hmi, HM, HB⟩ := hrel
    by_cases hlt : i < n
    · obtain ⟨b, o, x, rfl, hx, hok, hc0, hc1⟩ := (HD.out.1.later HB.out).get i hlt
      have hs := cnt_snoc (l.take i) (l[i]?.getD z0) bs
      rw [← take_snoc (by rw [HD.out.1.len]; exact hlt) rfl, hx, HM.out] at hs
      have HB' : Hid (Below w.heap.size w (wr.alloc (.cells #[.slice x.a x.bs.length x.c, .int .i64 x.t] 26))) := below_more HB.out _
      have cE := equal_any x.a da x.c dc x.bs bs (wr.alloc (.cells #[.slice x.a x.bs.length x.c, .int .i64 x.t] 26)) (hok.1.alloc _) (HD.out.2.later HB'.out)
      by_cases hlm : x.bs = bs
      · have HS : Hid (cntN (l.take (i + 1)) bs = m + 1) := hs.trans (if_pos hlm)
        rw [show decide (x.bs = bs) = true from by simpa using hlm] at cE
        clear hx hok hs hlm
        go_wp2_with fail
        refine cE.mono ?_
        rintro e w1 ⟨rfl, rfl⟩
        go_wp2_with fail
        go_roundw
        case rel => exact ⟨i + 1, m + 1, by go_num, by go_num, by omega, by omega, HS, HB'.out⟩
        case measure => simp [intOf]; omega
      · have HS : Hid (cntN (l.take (i + 1)) bs = m) := hs.trans (if_neg hlm)
        rw [show decide (x.bs = bs) = false from by simpa using hlm] at cE
        clear hx hok hs hlm
        go_wp2_with fail
        refine cE.mono ?_
        rintro e w1 ⟨rfl, rfl⟩
        go_wp2_with fail
        go_roundw
        case rel => exact ⟨i + 1, m, by go_num, rfl, by omega, by omega, HS, HB'.out⟩
        case measure => simp [intOf]; omega
    · obtain rfl : i = n := by omega
      have hM : cntN l bs = m := by rw [← take_all HD.out.1]; exact HM.out
      go_wp2_with fail
      go_ret
      exact ⟨by rw [hM]; rfl, HB.out⟩
end Go.Proofs.Ytkbgpbhlcmainaa
