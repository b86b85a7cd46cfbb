/- The walk of TimerBack. -/
import Derived.Test.YtdmkbnbdbhggkaaTwoWalk
namespace Go.Proofs.Ytdmkbnbdbhggkaa
open Go.ChangeShapes Go.WideShapes Go.ChangeAt Go.RowKit Go.Shelf
set_option linter.unusedVariables false

theorem stop_ok (A : Option Addr) (cap : Nat) (ts : List Tm) (k : Int) (w : World) (hT : TimsAt w A ts) (hc : chk 0 ts = true) (hk : kindB k = true) (m : Nat) (hm : ts.length = m) (os : List Tm) (ho : wo ts k = os) (n : Nat) (hn : os.length = n) :
    Calls Try.prog 13 #[.slice A m cap, .int .i64 k] w fun e W' => ∃ va vc, e = .returned (.tuple #[.slice va n vc, .int .i64 0]) ∧ TimsAt W' va os ∧ Below w.heap.size w W' := by
  subst hm; subst ho; subst hn
  have hE : stopE ts k = 0 ∧ stopL ts k = wo ts k := by unfold stopE stopL; simp [hc, hk]
  have h := stop_any A cap ts k w hT
  rw [hE.1, hE.2] at h
  exact h.mono (fun e W' ⟨va, vc, he, hr, hb⟩ => ⟨va, vc, he, hr.tims, hb⟩)
theorem when_ok (A : Option Addr) (cap : Nat) (ts : List Tm) (k : Int) (w : World) (hT : TimsAt w A ts) (m : Nat) (hm : ts.length = m) (x : Int) (f : Bool) (hx : (whenI ts k).getD 0 = x) (hf : (whenI ts k).isSome = f) :
    Calls Try.prog 8 #[.slice A m cap, .int .i64 k] w fun e W' => e = .returned (.tuple #[.int .i64 x, .bool f]) ∧ Below w.heap.size w W' := by
  subst hm; subst hx; subst hf; exact when_any A cap ts k w hT

set_option maxRecDepth 100000 in
set_option maxHeartbeats 2000000 in
theorem back_walk (A : Option Addr) (cap : Nat) (ts : List Tm) (k t : Int) (w : World) (hT : TimsAt w A ts) :
    Calls Try.prog 6 #[.slice A ts.length cap, .int .i64 k, .int .i64 t] w fun e w' => e = .returned (.bool true) ∧ Below w.heap.size w w' := by
  obtain ⟨n, hn⟩ : ∃ n, ts.length = n := ⟨_, rfl⟩
  rw [hn]
  have HT : Hid (TimsAt w A ts) := hT
  have HN : Hid (ts.length = n) := hn
  clear hT hn
  by_cases hok : chk 0 ts = true ∧ kindB k = true ∧ timeB t = true
  · obtain ⟨hc, hk, ht⟩ := hok
    have hs := chk_set hc hk ht
    have hwo := wo_set hc hk ht
    have hss := set_set ts k t t
    have hws := when_set ts k t
    have hwn : whenI (wo ts k) k = none := when_none wo_none
    obtain ⟨S, hS⟩ : ∃ S, setI ts k t = S := ⟨_, rfl⟩
    obtain ⟨O, hO⟩ : ∃ O, wo ts k = O := ⟨_, rfl⟩
    obtain ⟨m, hm⟩ : ∃ m, S.length = m := ⟨_, rfl⟩
    obtain ⟨p, hp⟩ : ∃ p, O.length = p := ⟨_, rfl⟩
    rw [hS] at hs hwo hss hws
    rw [hO] at hwo hwn
    have HC : Hid (chk 0 ts = true ∧ kindB k = true ∧ timeB t = true ∧ chk 0 S = true) := ⟨hc, hk, ht, hs⟩
    have HS : Hid (setI ts k t = S ∧ wo ts k = O ∧ wo S k = O ∧ setI S k t = S ∧ whenI S k = some t ∧ whenI O k = none ∧ S.length = m ∧ O.length = p) := ⟨hS, hO, hwo, hss, hws, hwn, hm, hp⟩
    have c1 := set_ok A cap ts k t w HT.out hc hk ht m n HN.out (by rw [hS]; exact hm)
    rw [hS] at c1
    clear hc hk ht hs hwo hss hws hwn hS hO hm hp
    go_enter Try.func6, Try.ntmps6
    go_wp2_with fail
    refine c1.mono ?_
    rintro e w1 ⟨va1, vc1, rfl, hT1, hB1⟩
    have HB1 : Hid (Below w.heap.size w w1) := hB1
    have HT1 : Hid (TimsAt w1 va1 S) := hT1
    have c2 := when_ok va1 vc1 S k w1 hT1 m HS.out.2.2.2.2.2.2.1 t true (by rw [HS.out.2.2.2.2.1]; rfl) (by rw [HS.out.2.2.2.2.1]; rfl)
    clear c1 hB1 hT1
    go_wp2_with fail
    refine c2.mono ?_
    rintro e w2 ⟨rfl, hB2⟩
    have HB2 : Hid (Below w.heap.size w w2) := below_next HB1.out hB2
    have HT2 : Hid (TimsAt w2 va1 S) := HT1.out.later hB2
    have c3 := stop_ok va1 vc1 S k w2 HT2.out HC.out.2.2.2 HC.out.2.1 m HS.out.2.2.2.2.2.2.1 O HS.out.2.2.1 p HS.out.2.2.2.2.2.2.2
    clear c2 hB2 HB1 HT1
    go_wp2_with fail
    refine c3.mono ?_
    rintro e w3 ⟨va3, vc3, rfl, hT3, hB3⟩
    have HB3 : Hid (Below w.heap.size w w3) := below_next HB2.out hB3
    have HT3 : Hid (TimsAt w3 va1 S ∧ TimsAt w3 va3 O) := ⟨HT2.out.later hB3, hT3⟩
    have c4 := stop_ok A cap ts k w3 (HT.out.later HB3.out) HC.out.1 HC.out.2.1 n HN.out O HS.out.2.1 p HS.out.2.2.2.2.2.2.2
    clear c3 hB3 hT3 HB2 HT2
    go_wp2_with fail
    refine c4.mono ?_
    rintro e w4 ⟨va4, vc4, rfl, hT4, hB4⟩
    have HB4 : Hid (Below w.heap.size w w4) := below_next HB3.out hB4
    have HT4 : Hid (TimsAt w4 va1 S ∧ TimsAt w4 va3 O ∧ TimsAt w4 va4 O) := ⟨HT3.out.1.later hB4, HT3.out.2.later hB4, hT4⟩
    have c5 := when_ok va3 vc3 O k w4 HT4.out.2.1 p HS.out.2.2.2.2.2.2.2 0 false (by rw [HS.out.2.2.2.2.2.1]; rfl) (by rw [HS.out.2.2.2.2.2.1]; rfl)
    clear c4 hB4 hT4 HB3 HT3
    go_wp2_with fail
    refine c5.mono ?_
    rintro e w5 ⟨rfl, hB5⟩
    have HB5 : Hid (Below w.heap.size w w5) := below_next HB4.out hB5
    have HT5 : Hid (TimsAt w5 va1 S ∧ TimsAt w5 va3 O ∧ TimsAt w5 va4 O) := ⟨HT4.out.1.later hB5, HT4.out.2.1.later hB5, HT4.out.2.2.later hB5⟩
    have c6 := set_ok va1 vc1 S k t w5 HT5.out.1 HC.out.2.2.2 HC.out.2.1 HC.out.2.2.1 m m HS.out.2.2.2.2.2.2.1 (by rw [HS.out.2.2.2.1]; exact HS.out.2.2.2.2.2.2.1)
    rw [HS.out.2.2.2.1] at c6
    clear c5 hB5 HB4 HT4
    go_wp2_with fail
    refine c6.mono ?_
    rintro e w6 ⟨va6, vc6, rfl, hT6, hB6⟩
    have HB6 : Hid (Below w.heap.size w w6) := below_next HB5.out hB6
    have HT6 : Hid (TimsAt w6 va1 S ∧ TimsAt w6 va6 S) := ⟨HT5.out.1.later hB6, hT6⟩
    have c7 := same_ok va3 va4 vc3 vc4 O w6 (HT5.out.2.1.later hB6) (HT5.out.2.2.later hB6) p HS.out.2.2.2.2.2.2.2
    clear c6 hB6 hT6 HB5 HT5
    go_wp2_with fail
    refine c7.mono ?_
    rintro e w7 ⟨rfl, hB7⟩
    have HB7 : Hid (Below w.heap.size w w7) := below_next HB6.out hB7
    have HT7 : Hid (TimsAt w7 va1 S) := HT6.out.1.later hB7
    have c8 := same_ok va6 va1 vc6 vc1 S w7 (HT6.out.2.later hB7) HT7.out m HS.out.2.2.2.2.2.2.1
    clear c7 hB7 HB6 HT6
    go_wp2_with fail
    refine c8.mono ?_
    rintro e w8 ⟨rfl, hB8⟩
    have HB8 : Hid (Below w.heap.size w w8) := below_next HB7.out hB8
    have c9 := check_ok va1 vc1 S w8 (HT7.out.later hB8) m HS.out.2.2.2.2.2.2.1 0 (by unfold errI; rw [if_pos HC.out.2.2.2])
    clear c8 hB8 HB7 HT7
    go_wp2_with (first | (go_at_call 16; refine c9.mono ?_; rintro e w9 ⟨rfl, hB9⟩) | (go_at_call 10; refine (heads_any _).mono ?_; rintro e w10 ⟨rfl, hB10⟩))
    go_ret
    exact ⟨rfl, below_next (below_next HB8.out hB9) hB10⟩
  · obtain ⟨e', he', c1⟩ := set_no A cap ts k t w HT.out hok n HN.out
    clear hok
    go_enter Try.func6, Try.ntmps6
    go_wp2_with (first | (go_at_call 9; refine c1.mono ?_; rintro e w1 ⟨va, vc, rfl, hB1⟩) | (go_at_call 10; refine (heads_any _).mono ?_; rintro e w3 ⟨rfl, hB3⟩))
    go_ret
    exact ⟨rfl, below_next hB1 hB3⟩
end Go.Proofs.Ytdmkbnbdbhggkaa
