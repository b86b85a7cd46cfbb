/- The walk of SpanChanges. -/
import Derived.Test.YtiigipfcagmgnaaRef4
namespace Go.Proofs.Ytiigipfcagmgnaa
open Go.ChangeShapes Go.WideShapes Go.ChangeAt Go.RowKit Go.Shelf
set_option linter.unusedVariables false

set_option maxRecDepth 100000 in
set_option maxHeartbeats 4000000 in
theorem changes_walk (A : Option Addr) (cap : Nat) (ts : List Tm) (s : Tm) (w : World) (hT : Got w A cap ts) (hr : ts.length * 16 ≤ 140737488351232) :
    Calls Try.prog 4 #[.slice A ts.length cap, tmV s] w fun e w' => e = .returned (.bool true) ∧ Below w.heap.size w w' := by
  have hB0 : Below w.heap.size w (w.alloc (.cells #[.int .i64 s.1, .int .i64 s.2] 24)) := (Below.refl _ w).alloc (Nat.le_refl _) _
  have bS := BoxT.new w s
  obtain ⟨W0, hW0⟩ : ∃ W0, w.alloc (.cells #[.int .i64 s.1, .int .i64 s.2] 24) = W0 := ⟨_, rfl⟩
  rw [hW0] at hB0 bS
  obtain ⟨va1, vc1, w1, r1, R1, g1⟩ := app_row (W0.alloc (.cells #[] 24)) W0.heap.size _ 0 0 [] (owns_empty W0 W0.heap.size (Nat.le_refl _)) (by simp) A cap ts ((hT.later hB0).1.alloc _) hT.2 (by omega)
  have hB01 : Below W0.heap.size W0 w1 := below_append ((Below.refl _ W0).alloc (Nat.le_refl _) _) (by simp) (owns_empty W0 W0.heap.size (Nat.le_refl _)) g1
  have hB1 : Below w.heap.size w w1 := below_next hB0 hB01
  have hX1 : BoxT w1 w.heap.size s := bS.on hB01
  obtain ⟨n, hn⟩ : ∃ n, ts.length = n := ⟨_, rfl⟩
  rw [Nat.zero_add, hn] at r1
  have hT1 : Got w1 va1 vc1 ts := R1.got
  rw [hn] at hr ⊢
  have HT : Hid (Got w A cap ts) := hT
  have HN : Hid (ts.length = n) := hn
  obtain ⟨S, hS⟩ : ∃ S, addV ts s = S := ⟨_, rfl⟩
  obtain ⟨O, hO⟩ : ∃ O, cutV ts s = O := ⟨_, rfl⟩
  obtain ⟨m, hm⟩ : ∃ m, S.length = m := ⟨_, rfl⟩
  obtain ⟨p, hp⟩ : ∃ p, O.length = p := ⟨_, rfl⟩
  obtain ⟨es, hes⟩ : ∃ es, bothI ts s = es := ⟨_, rfl⟩
  obtain ⟨ec, hec⟩ : ∃ ec, errI ts = ec := ⟨_, rfl⟩
  have HS : Hid (addV ts s = S ∧ S.length = m ∧ bothI ts s = es) := ⟨hS, hm, hes⟩
  have HO : Hid (cutV ts s = O ∧ O.length = p) := ⟨hO, hp⟩
  have HE : Hid (errI ts = ec) := hec
  have HB1 : Hid (Below w.heap.size w w1) := hB1
  have HT1 : Hid (Got w1 va1 vc1 ts) := hT1
  have HX1 : Hid (BoxT w1 w.heap.size s) := hX1
  have c2 := add_fin va1 vc1 ts s w1 hT1 n hn (by omega) S hS m hm es hes
  subst hW0
  have HR1 : Hid ((Builtin.append_ #[22, 22] 22 #[.slice (some ⟨(w.alloc (.cells #[.int .i64 s.1, .int .i64 s.2] 24)).heap.size, 0, none⟩) 0 0, .slice A n cap]).run Try.prog ((w.alloc (.cells #[.int .i64 s.1, .int .i64 s.2] 24)).alloc (.cells #[] 24)) = .ok (.slice va1 n vc1) w1) := r1
  clear hT hn r1 hS hO hm hp hes hec hB1 hT1 hX1 R1 g1 hB0 hB01 bS
  go_enter Try.func4, Try.ntmps4
  go_upto_region 1 with fail
  obtain ⟨W0, hW0⟩ : ∃ W0, w.alloc (.cells #[.int .i64 s.1, .int .i64 s.2] 24) = W0 := ⟨_, rfl⟩
  rw [hW0] at HR1 ⊢
  clear hW0
  have k0 := HX1.out.cell0
  have k1 := HX1.out.cell1
  go_wp2_with (at_builtin; refine Lib.wpList_append_run (W0.alloc (.cells #[] 24)) rfl (.tmp 14) (.tmp 15) 22 22 rfl (.slice (some ⟨W0.heap.size, 0, none⟩) 0 0) (.slice A n cap) rfl rfl (.slice va1 n vc1) w1 HR1.out ?_)
  refine c2.mono ?_
  rintro e w2 ⟨va2, vc2, rfl, hT2, hB2⟩
  have HB2 : Hid (Below w.heap.size w w2) := below_next HB1.out hB2
  have HT2 : Hid (Got w2 va1 vc1 ts ∧ Got w2 va2 vc2 S) := ⟨HT1.out.later hB2, hT2⟩
  have HX2 : Hid (BoxT w2 w.heap.size s) := HX1.out.on hB2
  have c3 := refAdd_is A cap ts s w2 (HT.out.later HB2.out) n HN.out (by omega) S HS.out.1 m HS.out.2.1 es HS.out.2.2
  clear c2 hB2 hT2 HB1 HT1 HR1 HX1 k0 k1
  have k0 := HX2.out.cell0
  have k1 := HX2.out.cell1
  go_wp2_with fail
  refine c3.mono ?_
  rintro e w3 ⟨va3, vc3, rfl, hT3, hB3⟩
  have HB3 : Hid (Below w.heap.size w w3) := below_next HB2.out hB3
  have HT3 : Hid (Got w3 va1 vc1 ts ∧ Got w3 va2 vc2 S ∧ Got w3 va3 vc3 S) := ⟨HT2.out.1.later hB3, HT2.out.2.later hB3, hT3⟩
  have HX3 : Hid (BoxT w3 w.heap.size s) := HX2.out.on hB3
  have c4 := cut_fin va1 vc1 ts s w3 HT3.out.1 n HN.out (by omega) O HO.out.1 p HO.out.2 es HS.out.2.2
  clear c3 hB3 hT3 HB2 HT2 HX2 k0 k1
  have k0 := HX3.out.cell0
  have k1 := HX3.out.cell1
  go_wp2_with fail
  refine c4.mono ?_
  rintro e w4 ⟨va4, vc4, rfl, hT4, hB4⟩
  have HB4 : Hid (Below w.heap.size w w4) := below_next HB3.out hB4
  have HT4 : Hid (Got w4 va1 vc1 ts ∧ Got w4 va2 vc2 S ∧ Got w4 va3 vc3 S ∧ Got w4 va4 vc4 O) := ⟨HT3.out.1.later hB4, HT3.out.2.1.later hB4, HT3.out.2.2.later hB4, hT4⟩
  have HX4 : Hid (BoxT w4 w.heap.size s) := HX3.out.on hB4
  have c5 := refCut_is A cap ts s w4 (HT.out.later HB4.out) n HN.out (by omega) O HO.out.1 p HO.out.2 es HS.out.2.2
  clear c4 hB4 hT4 HB3 HT3 HX3 k0 k1
  have k0 := HX4.out.cell0
  have k1 := HX4.out.cell1
  go_wp2_with fail
  refine c5.mono ?_
  rintro e w5 ⟨va5, vc5, rfl, hT5, hB5⟩
  have HB5 : Hid (Below w.heap.size w w5) := below_next HB4.out hB5
  have HT5 : Hid (Got w5 va1 vc1 ts ∧ Got w5 va4 vc4 O ∧ Got w5 va5 vc5 O) := ⟨HT4.out.1.later hB5, HT4.out.2.2.2.later hB5, hT5⟩
  have c6 := same_is va2 va3 vc2 vc3 S w5 (HT4.out.2.1.later hB5) (HT4.out.2.2.1.later hB5) m HS.out.2.1
  clear c5 hB5 hT5 HB4 HT4 HX4 k0 k1
  go_wp2_with fail
  refine c6.mono ?_
  rintro e w6 ⟨rfl, hB6⟩
  have HB6 : Hid (Below w.heap.size w w6) := below_next HB5.out hB6
  have HT6 : Hid (Got w6 va1 vc1 ts) := HT5.out.1.later hB6
  have c7 := same_is va4 va5 vc4 vc5 O w6 (HT5.out.2.1.later hB6) (HT5.out.2.2.later hB6) p HO.out.2
  clear c6 hB6 HB5 HT5
  go_wp2_with fail
  refine c7.mono ?_
  rintro e w7 ⟨rfl, hB7⟩
  have HB7 : Hid (Below w.heap.size w w7) := below_next HB6.out hB7
  have HT7 : Hid (Got w7 va1 vc1 ts) := HT6.out.later hB7
  have c8 := check_is A cap ts w7 (HT.out.later HB7.out) n HN.out ec HE.out
  clear c7 hB7 HB6 HT6
  go_wp2_with fail
  refine c8.mono ?_
  rintro e w8 ⟨rfl, hB8⟩
  have HB8 : Hid (Below w.heap.size w w8) := below_next HB7.out hB8
  have HT8 : Hid (Got w8 va1 vc1 ts) := HT7.out.later hB8
  have c9 := refCheck_is A cap ts w8 (HT.out.later HB8.out) n HN.out ec HE.out
  clear c8 hB8 HB7 HT7
  go_wp2_with fail
  refine c9.mono ?_
  rintro e w9 ⟨rfl, hB9⟩
  have HB9 : Hid (Below w.heap.size w w9) := below_next HB8.out hB9
  have c10 := same_is va1 A vc1 cap ts w9 (HT8.out.later hB9) (HT.out.later HB9.out) n HN.out
  clear c9 hB9 HB8 HT8
  go_wp2_with (first | (go_at_call 17; refine c10.mono ?_; rintro e w10 ⟨rfl, hB10⟩) | (go_at_call 11; refine (heads_any _).mono ?_; rintro e w11 ⟨rfl, hB11⟩))
  go_ret
  exact ⟨rfl, below_next (below_next HB9.out hB10) hB11⟩
end Go.Proofs.Ytiigipfcagmgnaa
