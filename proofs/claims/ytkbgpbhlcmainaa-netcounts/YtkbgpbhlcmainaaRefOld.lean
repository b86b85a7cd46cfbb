/- The contracts of the document's Oldest and Count. -/
import Derived.Test.YtkbgpbhlcmainaaOld
namespace Go.Proofs.Ytkbgpbhlcmainaa
open Go.ChangeShapes Go.WideShapes Go.ChangeAt Go.RowKit
set_option linter.unusedVariables false

theorem age_bd {now m : Int} (hm : m ≤ now) : 0 ≤ ageI now m ∧ ageI now m ≤ 9223372036854775807 := by
  unfold ageI
  split <;> omega

set_option maxRecDepth 100000 in
set_option maxHeartbeats 2000000 in
theorem refOldest_any (A : Option Addr) (n c : Nat) (l : List Dg) (now : Int) (w : World) (hD : DatsAt w A n c l) (hn : I64 now) :
    Calls Try.prog 21 #[.slice A n c, .int .i64 now] w fun e w' => e = .returned (.int .i64 (oldI l now)) ∧ w' = w := by
  have hr := hD.reach
  have HD : Hid (DatsAt w A n c l) := hD
  have HN : Hid (I64 now) := hn
  clear hD hn
  go_enter Try.func21, Try.ntmps21
  go_wp2_with fail
  go_loopw [5, 6] (fun vm vi wr => ∃ (i : Nat) (v : Int), vi = .int .i64 i ∧ vm = .int .i64 v ∧ i ≤ n ∧ 0 ≤ v ∧ v ≤ 9223372036854775807 ∧ Hid (ageI now (leastI now (l.take i)) = v) ∧ wr = w)
    (fun _ vi _ => n - (intOf vi).toNat)
  case atStart => exact ⟨0, 0, rfl, rfl, Nat.zero_le _, by omega, by omega, by simp [leastI, Hid, ageI], rfl⟩
  case round =>
    obtain ⟨i, v, rfl, rfl, hin, hv0, hv1, HV, rfl⟩ := hrel
    by_cases hlt : i < n
    · obtain ⟨b, o, x, rfl, hx, hok, hc0, hc1⟩ := HD.out.get i hlt
      have hlt' : (i : Int) < (n : Int) := by omega
      have hs : leastI now (l.take (i + 1)) = minI (leastI now (l.take i)) x.t := by
        rw [take_snoc (by rw [HD.out.len]; exact hlt) hx, least_snoc]; rfl
      have hle := least_le (l.take i) now
      have hlb : I64 (leastI now (l.take i)) := least_i64 HN.out (fun y hy => (HD.out.all y (List.mem_of_mem_take hy)).2)
      have hst := old_step hle HN.out hlb hok.2.2
      have hle2 := least_le (l.take (i + 1)) now
      have hbd := age_bd hle2
      rw [hs] at hbd
      have hnb := HN.out
      have hxb := hok.2.2
      unfold I64 at hnb hxb
      obtain ⟨m', hm'⟩ : ∃ m', ageI now (minI (leastI now (l.take i)) x.t) = m' := ⟨_, rfl⟩
      rw [HV.out, hm'] at hst
      rw [hm'] at hbd
      have HS : Hid (ageI now (leastI now (l.take (i + 1))) = m') := by unfold Hid; rw [hs]; exact hm'
      by_cases hsn : x.t < now
      · by_cases hbig : 9223372036854775807 < now - x.t
        · have h1 := hst.1 hsn 9223372036854775807 (by rw [if_pos hbig])
          obtain ⟨q, hq⟩ : ∃ q, IntKind.i64.wrap (now - x.t) = q := ⟨_, rfl⟩
          have hqn : q < 0 := by rw [← hq, IntKind.wrap_i64]; omega
          by_cases hmx : v < 9223372036854775807
          · obtain rfl : m' = 9223372036854775807 := by rw [← h1, if_pos (by omega)]
            clear hx hok hs hle hlb hst hle2 hbd hm' h1 hc0 hnb hxb hbig
            go_wp2_with fail
            go_roundw
            case rel => exact ⟨i + 1, _, by go_num, rfl, by omega, by omega, by omega, HS, by first | rfl | trivial⟩
            case measure => simp [intOf]; omega
          · obtain rfl : m' = v := by rw [← h1, if_neg (by omega)]
            clear hx hok hs hle hlb hst hle2 hm' h1 hc0 hnb hxb hbig
            go_wp2_with fail
            go_roundw
            case rel => exact ⟨i + 1, _, by go_num, rfl, by omega, by omega, by omega, HS, by first | rfl | trivial⟩
            case measure => simp [intOf]; omega
        · have h1 := hst.1 hsn (now - x.t) (by rw [if_neg hbig])
          have hq : IntKind.i64.wrap (now - x.t) = now - x.t := by rw [IntKind.wrap_i64]; omega
          have hqn : ¬ now - x.t < 0 := by omega
          by_cases hmx : v < now - x.t
          · obtain rfl : m' = now - x.t := by rw [← h1, if_pos (by omega)]
            clear hx hok hs hle hlb hst hle2 hm' h1 hc0 hnb hxb hbig
            go_wp2_with fail
            go_roundw
            case rel => exact ⟨i + 1, _, by go_num, rfl, by omega, by omega, by omega, HS, by first | rfl | trivial⟩
            case measure => simp [intOf]; omega
          · obtain rfl : m' = v := by rw [← h1, if_neg (by omega)]
            clear hx hok hs hle hlb hst hle2 hm' h1 hc0 hnb hxb hbig
            go_wp2_with fail
            go_roundw
            case rel => exact ⟨i + 1, _, by go_num, rfl, by omega, by omega, by omega, HS, by first | rfl | trivial⟩
            case measure => simp [intOf]; omega
      · obtain rfl : v = m' := hst.2 hsn
        clear hx hok hs hle hlb hst hle2 hm' hc0 hnb hxb
        go_wp2_with fail
        go_roundw
        case rel => exact ⟨i + 1, _, by go_num, rfl, by omega, by omega, by omega, HS, by first | rfl | trivial⟩
        case measure => simp [intOf]; omega
    · obtain rfl : i = n := by omega
      have hV : oldI l now = v := by unfold oldI; rw [← HV.out, take_all HD.out]
      go_wp2_with fail
      go_ret
      exact ⟨by rw [hV]; rfl, rfl⟩

set_option maxRecDepth 100000 in
set_option maxHeartbeats 2000000 in
theorem refCount_any (A : Option Addr) (n c : Nat) (l : List Dg) (da : Option Addr) (dc : Nat) (bs : List Int) (w : World) (hD : DatsAt w A n c l) (hb : BytesAt w da bs) :
    Calls Try.prog 23 #[.slice A n c, .slice da bs.length dc] w fun e w' => e = .returned (.int .i64 (cntN l bs : Nat)) ∧ w' = w := by
  have hr := hD.reach
  have HD : Hid (DatsAt w A n c l ∧ BytesAt w da bs) := ⟨hD, hb⟩
  clear hD hb
  go_enter Try.func23, Try.ntmps23
  go_wp2_with fail
  go_loopw [5, 6] (fun vm vi wr => ∃ (i m : Nat), vi = .int .i64 i ∧ vm = .int .i64 m ∧ i ≤ n ∧ m ≤ i ∧ Hid (cntN (l.take i) bs = m) ∧ wr = w)
    (fun _ vi _ => n - (intOf vi).toNat)
  case atStart => exact ⟨0, 0, rfl, rfl, Nat.zero_le _, Nat.le_refl _, by simp [cntN, Hid], rfl⟩
  case round =>
    obtain ⟨i, m, rfl, rfl, hin, hmi, HM, rfl⟩ := hrel
    by_cases hlt : i < n
    · obtain ⟨b, o, x, rfl, hx, hok, hc0, hc1⟩ := HD.out.1.get i hlt
      have hlt' : (i : Int) < (n : Int) := by omega
      have hs := cnt_snoc (l.take i) (l[i]?.getD z0) bs
      rw [← take_snoc (by rw [HD.out.1.len]; exact hlt) rfl, hx, HM.out] at hs
      have cE := same_any x.a da x.c dc x.bs bs wr hok.1 HD.out.2
      by_cases hlm : x.bs = bs
      · have HS : Hid (cntN (l.take (i + 1)) bs = m + 1) := hs.trans (if_pos hlm)
        rw [show decide (x.bs = bs) = true from by simpa using hlm] at cE
        clear hx hok hs hlm
        go_wp2_with fail
        refine cE.mono ?_
        rintro e w1 ⟨rfl, rfl⟩
        go_wp2_with fail
        go_roundw
        case rel => exact ⟨i + 1, m + 1, by go_num, by go_num, by omega, by omega, HS, by first | rfl | trivial⟩
        case measure => simp [intOf]; omega
      · have HS : Hid (cntN (l.take (i + 1)) bs = m) := hs.trans (if_neg hlm)
        rw [show decide (x.bs = bs) = false from by simpa using hlm] at cE
        clear hx hok hs hlm
        go_wp2_with fail
        refine cE.mono ?_
        rintro e w1 ⟨rfl, rfl⟩
        go_wp2_with fail
        go_roundw
        case rel => exact ⟨i + 1, m, by go_num, rfl, by omega, by omega, HS, by first | rfl | trivial⟩
        case measure => simp [intOf]; omega
    · obtain rfl : i = n := by omega
      have hM : cntN l bs = m := by rw [← take_all HD.out.1]; exact HM.out
      go_wp2_with fail
      go_ret
      exact ⟨by rw [hM]; rfl, rfl⟩
end Go.Proofs.Ytkbgpbhlcmainaa
