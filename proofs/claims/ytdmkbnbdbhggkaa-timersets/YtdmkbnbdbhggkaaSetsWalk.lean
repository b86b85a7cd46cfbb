/- The walk of TimerSets. -/
import Derived.Test.YtdmkbnbdbhggkaaRefSet
import Derived.Test.YtdmkbnbdbhggkaaTwoWalk
namespace Go.Proofs.Ytdmkbnbdbhggkaa
open Go.ChangeShapes Go.WideShapes Go.ChangeAt Go.RowKit Go.Shelf
set_option linter.unusedVariables false

theorem set_is (A : Option Addr) (cap : Nat) (ts : List Tm) (k t : Int) (w : World) (hT : TimsAt w A ts) (m : Nat) (hm : ts.length = m) (S : List Tm) (hS : setL ts k t = S) (n : Nat) (hn : S.length = n) (e0 : Int) (he : setE ts k t = e0) :
    Calls Try.prog 9 #[.slice A m cap, .int .i64 k, .int .i64 t] w fun e W' => ∃ va vc, e = .returned (.tuple #[.slice va n vc, .int .i64 e0]) ∧ TimsAt W' va S ∧ Below w.heap.size w W' := by
  subst hm; subst hS; subst hn; subst he
  exact (set_any A cap ts k t w hT).mono (fun e W' ⟨va, vc, he, hr, hb⟩ => ⟨va, vc, he, hr.tims, hb⟩)
theorem refSet_is (A : Option Addr) (cap : Nat) (ts : List Tm) (k t : Int) (w : World) (hT : TimsAt w A ts) (m : Nat) (hm : ts.length = m) (S : List Tm) (hS : setL ts k t = S) (n : Nat) (hn : S.length = n) (e0 : Int) (he : setE ts k t = e0) :
    Calls Try.prog 12 #[.slice A m cap, .int .i64 k, .int .i64 t] w fun e W' => ∃ va vc, e = .returned (.tuple #[.slice va n vc, .int .i64 e0]) ∧ TimsAt W' va S ∧ Below w.heap.size w W' := by
  subst hm; subst hS; subst hn; subst he
  exact (refSet_any A cap ts k t w hT).mono (fun e W' ⟨va, vc, he, hr, hb⟩ => ⟨va, vc, he, hr.tims, hb⟩)
theorem stop_is (A : Option Addr) (cap : Nat) (ts : List Tm) (k : Int) (w : World) (hT : TimsAt w A ts) (m : Nat) (hm : ts.length = m) (S : List Tm) (hS : stopL ts k = S) (n : Nat) (hn : S.length = n) (e0 : Int) (he : stopE ts k = e0) :
    Calls Try.prog 13 #[.slice A m cap, .int .i64 k] w fun e W' => ∃ va vc, e = .returned (.tuple #[.slice va n vc, .int .i64 e0]) ∧ TimsAt W' va S ∧ Below w.heap.size w W' := by
  subst hm; subst hS; subst hn; subst he
  exact (stop_any A cap ts k w hT).mono (fun e W' ⟨va, vc, he, hr, hb⟩ => ⟨va, vc, he, hr.tims, hb⟩)
theorem refStop_is (A : Option Addr) (cap : Nat) (ts : List Tm) (k : Int) (w : World) (hT : TimsAt w A ts) (m : Nat) (hm : ts.length = m) (S : List Tm) (hS : stopL ts k = S) (n : Nat) (hn : S.length = n) (e0 : Int) (he : stopE ts k = e0) :
    Calls Try.prog 14 #[.slice A m cap, .int .i64 k] w fun e W' => ∃ va vc, e = .returned (.tuple #[.slice va n vc, .int .i64 e0]) ∧ TimsAt W' va S ∧ Below w.heap.size w W' := by
  subst hm; subst hS; subst hn; subst he
  exact (refStop_any A cap ts k w hT).mono (fun e W' ⟨va, vc, he, hr, hb⟩ => ⟨va, vc, he, hr.tims, hb⟩)
theorem refCheck_ok (A : Option Addr) (cap : Nat) (ts : List Tm) (w : World) (hT : TimsAt w A ts) (n : Nat) (hn : ts.length = n) (e0 : Int) (he : errI ts = e0) :
    Calls Try.prog 17 #[.slice A n cap] w fun e W' => e = .returned (.int .i64 e0) ∧ Below w.heap.size w W' := by
  subst hn; subst he
  refine (refCheck_any A cap ts w hT).mono ?_
  rintro e w' ⟨he, k, rfl⟩
  exact ⟨he, rfl, rfl, rfl, Nat.le_refl _, fun _ _ => rfl⟩

set_option maxRecDepth 100000 in
set_option maxHeartbeats 2000000 in
theorem sets_walk (A : Option Addr) (cap : Nat) (ts : List Tm) (k t : Int) (w : World) (hT : TimsAt w A ts) (hA : A = none → cap = 0) (hr : ts.length * 16 ≤ 140737488351232) :
    Calls Try.prog 4 #[.slice A ts.length cap, .int .i64 k, .int .i64 t] w fun e w' => e = .returned (.bool true) ∧ Below w.heap.size w w' := by
  have b0 : Below w.heap.size w (w.alloc (.cells #[] 31)) := (Below.refl _ w).alloc (Nat.le_refl _) _
  obtain ⟨va1, vc1, w1, r1, R1, g1⟩ := app_row (w.alloc (.cells #[] 31)) w.heap.size _ 0 0 [] (owns_empty w w.heap.size (Nat.le_refl _)) (by simp) A cap ts (hT.alloc _) hA (by omega)
  have hB1 : Below w.heap.size w w1 := below_append b0 (by simp) (owns_empty w w.heap.size (Nat.le_refl _)) g1
  obtain ⟨n, hn⟩ : ∃ n, ts.length = n := ⟨_, rfl⟩
  rw [Nat.zero_add, hn] at r1
  have hT1 : TimsAt w1 va1 ts := R1.tims
  rw [hn]
  have HT : Hid (TimsAt w A ts) := hT
  have HN : Hid (ts.length = n) := hn
  have HR1 : Hid (_ = _) := r1
  obtain ⟨S, hS⟩ : ∃ S, setL ts k t = S := ⟨_, rfl⟩
  obtain ⟨O, hO⟩ : ∃ O, stopL ts k = O := ⟨_, rfl⟩
  obtain ⟨m, hm⟩ : ∃ m, S.length = m := ⟨_, rfl⟩
  obtain ⟨p, hp⟩ : ∃ p, O.length = p := ⟨_, rfl⟩
  obtain ⟨es, hes⟩ : ∃ es, setE ts k t = es := ⟨_, rfl⟩
  obtain ⟨eo, heo⟩ : ∃ eo, stopE ts k = eo := ⟨_, rfl⟩
  obtain ⟨ec, hec⟩ : ∃ ec, errI ts = ec := ⟨_, rfl⟩
  have HS : Hid (setL ts k t = S ∧ S.length = m ∧ setE ts k t = es) := ⟨hS, hm, hes⟩
  have HO : Hid (stopL ts k = O ∧ O.length = p ∧ stopE ts k = eo) := ⟨hO, hp, heo⟩
  have HE : Hid (errI ts = ec) := hec
  have HB1 : Hid (Below w.heap.size w w1) := hB1
  have HT1 : Hid (TimsAt w1 va1 ts) := hT1
  have c2 := set_is va1 vc1 ts k t w1 hT1 n hn S hS m hm es hes
  clear hT hn r1 hS hO hm hp hes heo hec hB1 hT1 R1 g1 b0 hA hr
  go_enter Try.func4, Try.ntmps4
  go_wp2_with (at_builtin; refine Lib.wpList_append_run (w.alloc (.cells #[] 31)) rfl (.tmp 16) (.tmp 17) 22 22 rfl (.slice (some ⟨w.heap.size, 0, none⟩) 0 0) (.slice A n cap) rfl rfl (.slice va1 n vc1) w1 HR1.out ?_)
  refine c2.mono ?_
  rintro e w2 ⟨va2, vc2, rfl, hT2, hB2⟩
  have HB2 : Hid (Below w.heap.size w w2) := below_next HB1.out hB2
  have HT2 : Hid (TimsAt w2 va1 ts ∧ TimsAt w2 va2 S) := ⟨HT1.out.later hB2, hT2⟩
  have c3 := refSet_is A cap ts k t w2 (HT.out.later HB2.out) n HN.out S HS.out.1 m HS.out.2.1 es HS.out.2.2
  clear c2 hB2 hT2 HB1 HT1 HR1
  go_wp2_with fail
  refine c3.mono ?_
  rintro e w3 ⟨va3, vc3, rfl, hT3, hB3⟩
  have HB3 : Hid (Below w.heap.size w w3) := below_next HB2.out hB3
  have HT3 : Hid (TimsAt w3 va1 ts ∧ TimsAt w3 va2 S ∧ TimsAt w3 va3 S) := ⟨HT2.out.1.later hB3, HT2.out.2.later hB3, hT3⟩
  have c4 := stop_is va1 vc1 ts k w3 HT3.out.1 n HN.out O HO.out.1 p HO.out.2.1 eo HO.out.2.2
  clear c3 hB3 hT3 HB2 HT2
  go_wp2_with fail
  refine c4.mono ?_
  rintro e w4 ⟨va4, vc4, rfl, hT4, hB4⟩
  have HB4 : Hid (Below w.heap.size w w4) := below_next HB3.out hB4
  have HT4 : Hid (TimsAt w4 va1 ts ∧ TimsAt w4 va2 S ∧ TimsAt w4 va3 S ∧ TimsAt w4 va4 O) := ⟨HT3.out.1.later hB4, HT3.out.2.1.later hB4, HT3.out.2.2.later hB4, hT4⟩
  have c5 := refStop_is A cap ts k w4 (HT.out.later HB4.out) n HN.out O HO.out.1 p HO.out.2.1 eo HO.out.2.2
  clear c4 hB4 hT4 HB3 HT3
  go_wp2_with fail
  refine c5.mono ?_
  rintro e w5 ⟨va5, vc5, rfl, hT5, hB5⟩
  have HB5 : Hid (Below w.heap.size w w5) := below_next HB4.out hB5
  have HT5 : Hid (TimsAt w5 va1 ts ∧ TimsAt w5 va4 O ∧ TimsAt w5 va5 O) := ⟨HT4.out.1.later hB5, HT4.out.2.2.2.later hB5, hT5⟩
  have c6 := same_ok va2 va3 vc2 vc3 S w5 (HT4.out.2.1.later hB5) (HT4.out.2.2.1.later hB5) m HS.out.2.1
  clear c5 hB5 hT5 HB4 HT4
  go_wp2_with fail
  refine c6.mono ?_
  rintro e w6 ⟨rfl, hB6⟩
  have HB6 : Hid (Below w.heap.size w w6) := below_next HB5.out hB6
  have HT6 : Hid (TimsAt w6 va1 ts) := HT5.out.1.later hB6
  have c7 := same_ok va4 va5 vc4 vc5 O w6 (HT5.out.2.1.later hB6) (HT5.out.2.2.later hB6) p HO.out.2.1
  clear c6 hB6 HB5 HT5
  go_wp2_with fail
  refine c7.mono ?_
  rintro e w7 ⟨rfl, hB7⟩
  have HB7 : Hid (Below w.heap.size w w7) := below_next HB6.out hB7
  have HT7 : Hid (TimsAt w7 va1 ts) := HT6.out.later hB7
  have c8 := check_ok A cap ts w7 (HT.out.later HB7.out) n HN.out ec HE.out
  clear c7 hB7 HB6 HT6
  go_wp2_with fail
  refine c8.mono ?_
  rintro e w8 ⟨rfl, hB8⟩
  have HB8 : Hid (Below w.heap.size w w8) := below_next HB7.out hB8
  have HT8 : Hid (TimsAt w8 va1 ts) := HT7.out.later hB8
  have c9 := refCheck_ok A cap ts w8 (HT.out.later HB8.out) n HN.out ec HE.out
  clear c8 hB8 HB7 HT7
  go_wp2_with fail
  refine c9.mono ?_
  rintro e w9 ⟨rfl, hB9⟩
  have HB9 : Hid (Below w.heap.size w w9) := below_next HB8.out hB9
  have c10 := same_ok va1 A vc1 cap ts w9 (HT8.out.later hB9) (HT.out.later HB9.out) n HN.out
  clear c9 hB9 HB8 HT8
  go_wp2_with (first | (go_at_call 15; refine c10.mono ?_; rintro e w10 ⟨rfl, hB10⟩) | (go_at_call 10; refine (heads_any _).mono ?_; rintro e w11 ⟨rfl, hB11⟩))
  go_ret
  exact ⟨rfl, below_next (below_next HB9.out hB10) hB11⟩
end Go.Proofs.Ytdmkbnbdbhggkaa
