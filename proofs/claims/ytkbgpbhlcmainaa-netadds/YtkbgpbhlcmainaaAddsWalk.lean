/- The walk of NetAdds. -/
import Derived.Test.YtkbgpbhlcmainaaHeads
namespace Go.Proofs.Ytkbgpbhlcmainaa
open Go.ChangeShapes Go.WideShapes Go.ChangeAt Go.RowKit
set_option linter.unusedVariables false

theorem count_is (A : Option Addr) (n c : Nat) (l : List Dg) (da : Option Addr) (dc : Nat) (bs : List Int) (w : World) (hD : DatsAt w A n c l) (hb : BytesAt w da bs) (q : Int) (hq : ((cntN l bs : Nat) : Int) = q) :
    Calls Try.prog 22 #[.slice A n c, .slice da bs.length dc] w fun e w' => e = .returned (.int .i64 q) ∧ Below w.heap.size w w' := by
  subst hq
  exact count_any A n c l da dc bs w hD hb
theorem same_is (a b : Option Addr) (c d : Nat) (xs ys : List Int) (w : World) (ha : BytesAt w a xs) (hb : BytesAt w b ys) (q : Bool) (hq : decide (xs = ys) = q) :
    Calls Try.prog 24 #[.slice a xs.length c, .slice b ys.length d] w fun e w' => e = .returned (.bool q) ∧ w' = w := by
  subst hq
  exact same_any a b c d xs ys w ha hb

set_option maxRecDepth 100000 in
set_option maxHeartbeats 2000000 in
theorem adds_walk (A : Option Addr) (n c : Nat) (l : List Dg) (k : Int) (da : Option Addr) (dc : Nat) (bs : List Int) (w : World) (hD : DatsAt w A n c l) (hk : I64 k) (hb : BytesAt w da bs) (h0 : da = none → dc = 0) :
    Calls Try.prog 6 #[.slice A n c, .int .i64 k, .slice da bs.length dc] w fun e w' => e = .returned (.bool true) ∧ Below w.heap.size w w' := by
  have hln := hD.len
  have hr := hD.reach
  cases hp : plB n k with
  | false =>
    have c1 := take_any A n c l k w hD [] (by rw [takeL, hln, hp]; simp) 0 rfl 50 (by rw [takeE, hln, hp]; simp) z0 (by rw [takeD, hln, hp]; simp)
    unfold z0 at c1
    rcases (show k < 0 ∨ (0 ≤ k ∧ (n : Int) ≤ k) from by simp [plB] at hp; omega) with h | ⟨h, h2⟩
    all_goals (
      clear hD hb h0 hln hp hk
      go_enter Try.func6, Try.ntmps6
      go_wp2_with fail
      refine c1.mono ?_
      rintro e w1 ⟨ea, ec, va, vc, rfl, hK, hT, hB⟩
      have HB : Hid (Below w.heap.size w (w1.alloc (.cells #[.slice ea 0 ec, .int .i64 0] 26))) := below_more hB _
      clear c1 hK hT hB
      go_wp2_with fail
      refine (heads_any _).mono ?_
      rintro e w2 ⟨rfl, hB2⟩
      go_wp2_with fail
      go_ret
      exact ⟨rfl, Below.on HB.out hB2⟩)
  | true =>
    obtain ⟨j, rfl⟩ : ∃ j : Nat, k = (j : Int) := ⟨k.toNat, by simp [plB] at hp; omega⟩
    have hj : j < n := by simp [plB] at hp; exact hp
    obtain ⟨n', rfl⟩ : ∃ n', n = n' + 1 := ⟨n - 1, by omega⟩
    obtain ⟨S, hS⟩ : ∃ S, takeL l (j : Int) = S := ⟨_, rfl⟩
    obtain ⟨d, hd⟩ : ∃ d, takeD l (j : Int) = d := ⟨_, rfl⟩
    have hSl : S = l.take j ++ l.drop (j + 1) := by rw [← hS, takeL, hln, hp]; simp
    have hdl : d = l[j]?.getD z0 := by rw [← hd, takeD, hln, hp]; simp
    have hSn : S.length = n' := by rw [hSl]; simp [hln]; omega
    have hct := cnt_take (l := l) (k := j) (by omega) bs
    rw [← hSl, ← hdl] at hct
    obtain ⟨p, hpp⟩ : ∃ p : Int, ((cntN S bs : Nat) : Int) = p := ⟨_, rfl⟩
    have hpb : 0 ≤ p ∧ p ≤ n' := by have := cnt_le S bs; omega
    have c1 := take_any A (n' + 1) c l (j : Int) w hD S hS n' hSn 0 (by rw [takeE, hln, hp]; simp) d hd
    have HD : Hid (DatsAt w A (n' + 1) c l ∧ BytesAt w da bs ∧ ((cntN S bs : Nat) : Int) = p) := ⟨hD, hb, hpp⟩
    have hj2 : (j : Int) < ((n' : Nat) : Int) + 1 := by omega
    by_cases hdb : d.1 = bs
    · have HQ : Hid (((cntN l bs : Nat) : Int) = p + 1) := by unfold Hid; rw [hct, if_pos hdb]; omega
      have HE : Hid (decide (d.1 = bs) = true) := by unfold Hid; simpa using hdb
      clear hD hb h0 hln hp hS hd hSl hdl hSn hct hpp hdb hk
      go_enter Try.func6, Try.ntmps6
      go_wp2_with fail
      refine c1.mono ?_
      rintro e w1 ⟨ea, ec, va, vc, rfl, hK, hT, hB⟩
      have hb1 := below_more (Below.refl w1.heap.size w1) (.cells #[.slice ea d.1.length ec, .int .i64 d.2] 26)
      have HB : Hid (Below w.heap.size w (w1.alloc (.cells #[.slice ea d.1.length ec, .int .i64 d.2] 26))) := below_more hB _
      have HK : Hid (BytesAt (w1.alloc (.cells #[.slice ea d.1.length ec, .int .i64 d.2] 26)) ea d.1 ∧ DatsAt (w1.alloc (.cells #[.slice ea d.1.length ec, .int .i64 d.2] 26)) va n' vc S ∧ BoxD (w1.alloc (.cells #[.slice ea d.1.length ec, .int .i64 d.2] 26)) w1.heap.size (.slice ea d.1.length ec) (.int .i64 d.2)) := ⟨hK.1.alloc _, hT.alloc _, BoxD.new _ _ _⟩
      have c2 := count_is A (n' + 1) c l da dc bs (w1.alloc (.cells #[.slice ea d.1.length ec, .int .i64 d.2] 26)) (HD.out.1.later HB.out) (HD.out.2.1.later HB.out) (p + 1) HQ.out
      clear c1 hK hT hB hb1
      go_wp2_with fail
      refine c2.mono ?_
      rintro e w2 ⟨rfl, hB2⟩
      have HB2 : Hid (Below w.heap.size w w2) := Below.on HB.out hB2
      have HK2 : Hid (BytesAt w2 ea d.1 ∧ BoxD w2 w1.heap.size (.slice ea d.1.length ec) (.int .i64 d.2)) := ⟨HK.out.1.later hB2, HK.out.2.2.later hB2⟩
      have c3 := count_is va n' vc S da dc bs w2 (HK.out.2.1.later hB2) (HD.out.2.1.later HB2.out) p HD.out.2.2
      clear c2 hB2 HB HK
      go_wp2_with fail
      refine c3.mono ?_
      rintro e w3 ⟨rfl, hB3⟩
      have HB3 : Hid (Below w.heap.size w w3) := Below.on HB2.out hB3
      have k0 := (HK2.out.2.later hB3).cell0
      have c4 := same_is ea da ec dc d.1 bs w3 (HK2.out.1.later hB3) (HD.out.2.1.later HB3.out) true HE.out
      clear c3 hB3 HB2 HK2
      go_wp2_with fail
      refine c4.mono ?_
      rintro e w4 ⟨rfl, rfl⟩
      clear c4
      go_wp2_with fail
      refine (heads_any _).mono ?_
      rintro e w5 ⟨rfl, hB5⟩
      go_wp2_with fail
      go_ret
      exact ⟨rfl, Below.on HB3.out hB5⟩
    · have HQ : Hid (((cntN l bs : Nat) : Int) = p) := by unfold Hid; rw [hct, if_neg hdb]; omega
      have HE : Hid (decide (d.1 = bs) = false) := by unfold Hid; simpa using hdb
      clear hD hb h0 hln hp hS hd hSl hdl hSn hct hpp hdb hk
      go_enter Try.func6, Try.ntmps6
      go_wp2_with fail
      refine c1.mono ?_
      rintro e w1 ⟨ea, ec, va, vc, rfl, hK, hT, hB⟩
      have HB : Hid (Below w.heap.size w (w1.alloc (.cells #[.slice ea d.1.length ec, .int .i64 d.2] 26))) := below_more hB _
      have HK : Hid (BytesAt (w1.alloc (.cells #[.slice ea d.1.length ec, .int .i64 d.2] 26)) ea d.1 ∧ DatsAt (w1.alloc (.cells #[.slice ea d.1.length ec, .int .i64 d.2] 26)) va n' vc S ∧ BoxD (w1.alloc (.cells #[.slice ea d.1.length ec, .int .i64 d.2] 26)) w1.heap.size (.slice ea d.1.length ec) (.int .i64 d.2)) := ⟨hK.1.alloc _, hT.alloc _, BoxD.new _ _ _⟩
      have c2 := count_is A (n' + 1) c l da dc bs (w1.alloc (.cells #[.slice ea d.1.length ec, .int .i64 d.2] 26)) (HD.out.1.later HB.out) (HD.out.2.1.later HB.out) p HQ.out
      clear c1 hK hT hB
      go_wp2_with fail
      refine c2.mono ?_
      rintro e w2 ⟨rfl, hB2⟩
      have HB2 : Hid (Below w.heap.size w w2) := Below.on HB.out hB2
      have HK2 : Hid (BytesAt w2 ea d.1 ∧ BoxD w2 w1.heap.size (.slice ea d.1.length ec) (.int .i64 d.2)) := ⟨HK.out.1.later hB2, HK.out.2.2.later hB2⟩
      have c3 := count_is va n' vc S da dc bs w2 (HK.out.2.1.later hB2) (HD.out.2.1.later HB2.out) p HD.out.2.2
      clear c2 hB2 HB HK
      go_wp2_with fail
      refine c3.mono ?_
      rintro e w3 ⟨rfl, hB3⟩
      have HB3 : Hid (Below w.heap.size w w3) := Below.on HB2.out hB3
      have k0 := (HK2.out.2.later hB3).cell0
      have c4 := same_is ea da ec dc d.1 bs w3 (HK2.out.1.later hB3) (HD.out.2.1.later HB3.out) false HE.out
      clear c3 hB3 HB2 HK2
      go_wp2_with fail
      refine c4.mono ?_
      rintro e w4 ⟨rfl, rfl⟩
      clear c4
      go_wp2_with fail
      refine (heads_any _).mono ?_
      rintro e w5 ⟨rfl, hB5⟩
      go_wp2_with fail
      go_ret
      exact ⟨rfl, Below.on HB3.out hB5⟩
end Go.Proofs.Ytkbgpbhlcmainaa
