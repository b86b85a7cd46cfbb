/- The walk of RackMarks. -/
import Derived.Test.YtfkkpianlmpknaaHeads
import Derived.Test.YtfkkpianlmpknaaRefM
import Derived.Test.YtfkkpianlmpknaaSame
namespace Go.Proofs.Ytfkkpianlmpknaa
open Go.ChangeShapes Go.WideShapes Go.ChangeAt Go.RowKit Go.Shelf
set_option linter.unusedVariables false
set_option linter.unusedSimpArgs false
attribute [local go_sem] Oper.semAt_some

set_option maxRecDepth 100000 in
set_option maxHeartbeats 4000000 in
theorem marks_walk (ks ke kr : Int) (kn : Bool) (kf km ko kl : Int) (A : Option Addr) (cap : Nat) (ts : List Rc) (now wait : Int) (w : World) (hk : I64 ks ∧ I64 ke ∧ I64 kr ∧ I64 kf ∧ I64 km ∧ I64 ko ∧ I64 kl) (hT : RecsAt w A ts) (hA : A = none → cap = 0) (hr : ts.length * 80 ≤ 140737488351232) (h1 : I64 now) (h2 : I64 wait) : Calls Try.prog 5 #[.agg #[.int .i64 ks, .int .i64 ke, .int .i64 kr, .bool kn, .int .i64 kf, .int .i64 km, .int .i64 ko, .int .i64 kl], .slice A ts.length cap, .int .i64 now, .int .i64 wait] w fun e w' => e = .returned (.bool true) ∧ Below w.heap.size w w' := by
  obtain ⟨L, hL⟩ : ∃ L, mrkL ⟨ks, ke, kr, kn, kf, km, ko, kl⟩ ts now wait = L := ⟨_, rfl⟩
  obtain ⟨li, hli⟩ : ∃ a, mrkI ⟨ks, ke, kr, kn, kf, km, ko, kl⟩ ts now wait = a := ⟨_, rfl⟩
  obtain ⟨er, her⟩ : ∃ a, mrkE ⟨ks, ke, kr, kn, kf, km, ko, kl⟩ ts now wait = a := ⟨_, rfl⟩
  obtain ⟨m, hm⟩ : ∃ m, L.length = m := ⟨_, rfl⟩
  obtain ⟨n, hn⟩ : ∃ n, ts.length = n := ⟨_, rfl⟩
  have HN : Hid (ts.length = n ∧ L.length = m) := ⟨hn, hm⟩
  have HT : Hid (RecsAt w A ts) := hT
  have q1 : ∀ W, RecsAt W A ts → Calls Try.prog 24 #[.slice A n cap] W fun e W' => ∃ va vc, e = .returned (.slice va n vc) ∧ RowR W' W.heap.size va n vc ts ∧ Below W.heap.size W W' := fun W h => by rw [← hn]; exact copy_any A cap ts W h hA (by omega)
  have q2 : ∀ W B va vc, RowR W B va n vc ts → Calls Try.prog 25 #[.agg #[.int .i64 ks, .int .i64 ke, .int .i64 kr, .bool kn, .int .i64 kf, .int .i64 km, .int .i64 ko, .int .i64 kl], .slice va n vc, .int .i64 now, .int .i64 wait] W fun e w' => ∃ va vc, e = .returned (.tuple #[.slice va m vc, .int .i64 li, .int .i64 er]) ∧ RowR w' W.heap.size va m vc L ∧ Below W.heap.size W w' := fun W B va vc h => by
    rw [← hn, ← hm]; rw [← hn] at h
    exact mark_is ks ke kr kn kf km ko kl now wait va vc ts W h.recs h.none0 (by omega) L hL li hli er her
  have q3 : ∀ W, RecsAt W A ts → Calls Try.prog 26 #[.agg #[.int .i64 ks, .int .i64 ke, .int .i64 kr, .bool kn, .int .i64 kf, .int .i64 km, .int .i64 ko, .int .i64 kl], .slice A n cap, .int .i64 now, .int .i64 wait] W fun e w' => ∃ va vc, e = .returned (.tuple #[.slice va m vc, .int .i64 li, .int .i64 er]) ∧ RowR w' W.heap.size va m vc L ∧ Below W.heap.size W w' := fun W h => by
    rw [← hn, ← hm]; exact rmark_is ks ke kr kn kf km ko kl now wait A cap ts W h hA (by omega) L hL li hli er her
  have q7 := heads_any
  have HX0 : Hid (BoxK (w.alloc (.cells #[.int .i64 ks, .int .i64 ke, .int .i64 kr, .bool kn, .int .i64 kf, .int .i64 km, .int .i64 ko, .int .i64 kl] 23)) w.heap.size (.int .i64 ks) (.int .i64 ke) (.int .i64 kr) (.bool kn) (.int .i64 kf) (.int .i64 km) (.int .i64 ko) (.int .i64 kl) ∧ Below w.heap.size w (w.alloc (.cells #[.int .i64 ks, .int .i64 ke, .int .i64 kr, .bool kn, .int .i64 kf, .int .i64 km, .int .i64 ko, .int .i64 kl] 23))) := ⟨BoxK.new w _ _ _ _ _ _ _ _, below_more (Below.refl _ _) _⟩
  rw [hn]
  clear hL hli her hm hn hT hk hr h1 h2
  go_enter Try.func5, Try.ntmps5
  go_wp2_with fail
  refine (q1 _ (HT.out.later HX0.out.2)).mono ?_
  rintro e w1 ⟨va1, vc1, rfl, hR1, hB1⟩
  have HX1 : Hid (BoxK w1 w.heap.size (.int .i64 ks) (.int .i64 ke) (.int .i64 kr) (.bool kn) (.int .i64 kf) (.int .i64 km) (.int .i64 ko) (.int .i64 kl) ∧ RowR w1 w.heap.size va1 n vc1 ts ∧ Below w.heap.size w w1) := ⟨HX0.out.1.later hB1, hR1.mono HX0.out.2.size, Below.on HX0.out.2 hB1⟩
  clear HX0 hB1 hR1 q1
  obtain ⟨k0, k1, k2, k3, k4, k5, k6, k7⟩ := HX1.out.1.cells
  go_wp2_with fail
  refine (q2 _ _ _ _ HX1.out.2.1).mono ?_
  rintro e w2 ⟨va2, vc2, rfl, hR2, hB2⟩
  have HX2 : Hid (BoxK w2 w.heap.size (.int .i64 ks) (.int .i64 ke) (.int .i64 kr) (.bool kn) (.int .i64 kf) (.int .i64 km) (.int .i64 ko) (.int .i64 kl) ∧ RecsAt w2 va1 ts ∧ RecsAt w2 va2 L ∧ Below w.heap.size w w2) := ⟨HX1.out.1.later hB2, HX1.out.2.1.recs.later hB2, hR2.recs, Below.on HX1.out.2.2 hB2⟩
  clear HX1 hB2 hR2 q2 k0 k1 k2 k3 k4 k5 k6 k7
  obtain ⟨k0, k1, k2, k3, k4, k5, k6, k7⟩ := HX2.out.1.cells
  go_wp2_with fail
  refine (q3 _ (HT.out.later HX2.out.2.2.2)).mono ?_
  rintro e w3 ⟨va3, vc3, rfl, hR3, hB3⟩
  have HX3 : Hid (RecsAt w3 va1 ts ∧ RecsAt w3 va2 L ∧ RecsAt w3 va3 L ∧ RecsAt w3 A ts ∧ Below w.heap.size w w3) := ⟨HX2.out.2.1.later hB3, HX2.out.2.2.1.later hB3, hR3.recs, HT.out.later (Below.on HX2.out.2.2.2 hB3), Below.on HX2.out.2.2.2 hB3⟩
  clear HX2 hB3 hR3 q3 k0 k1 k2 k3 k4 k5 k6 k7
  have q4 := same_b va2 va3 vc2 vc3 L m HN.out.2 w3 HX3.out.2.1 HX3.out.2.2.1
  go_wp2_with fail
  refine q4.mono ?_
  rintro e w4 ⟨rfl, hB4⟩
  clear q4
  have q5 := same_b va1 A vc1 cap ts n HN.out.1 w4 (HX3.out.1.later hB4) (HX3.out.2.2.2.1.later hB4)
  go_wp2_with fail
  refine q5.mono ?_
  rintro e w5 ⟨rfl, hB5⟩
  clear q5
  go_wp2_with fail
  refine (q7 _).mono ?_
  rintro e w6 ⟨rfl, hB6⟩
  go_wp2_with fail
  go_ret
  exact ⟨rfl, Below.on (Below.on (Below.on HX3.out.2.2.2.2 hB4) hB5) hB6⟩
end Go.Proofs.Ytfkkpianlmpknaa
