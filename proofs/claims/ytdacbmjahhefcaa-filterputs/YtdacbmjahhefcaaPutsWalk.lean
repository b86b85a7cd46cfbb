/- The walk of FilterPuts. -/
import Derived.Test.YtdacbmjahhefcaaHeads
namespace Go.Proofs.Ytdacbmjahhefcaa
open Go.ChangeShapes Go.WideShapes Go.ChangeAt Go.RowKit Go.Shelf
set_option linter.unusedVariables false
set_option linter.unusedSimpArgs false

theorem owns_emptyA (w : World) : RowT (w.alloc (.cells #[] 28)) w.heap.size (some ⟨w.heap.size, 0, none⟩) 0 0 [] := owns_empty w w.heap.size (Nat.le_refl _)
set_option maxRecDepth 100000 in
set_option maxHeartbeats 4000000 in
theorem puts_walk (A : Option Addr) (cap : Nat) (ts : List Tm) (t v win : Int) (w : World) (hT : TimsAt w A ts) (hA : A = none → cap = 0) (hcp : ts.length ≤ cap) (hr : ts.length * 16 ≤ 140737488351232) :
    Calls Try.prog 4 #[.slice A ts.length cap, .int .i64 t, .int .i64 v, .int .i64 win] w fun e w' => e = .returned (.bool true) ∧ Below w.heap.size w w' := by
  have b0 : Below w.heap.size w (w.alloc (.cells #[] 28)) := (Below.refl _ w).alloc (Nat.le_refl _) _
  obtain ⟨va1, vc1, w1, r1, R1, g1⟩ := app_row (w.alloc (.cells #[] 28)) w.heap.size _ 0 0 [] (owns_emptyA w) (by simp) A cap ts (hT.alloc _) hA (by omega)
  have hB1 : Below w.heap.size w w1 := below_append b0 (by simp) (owns_emptyA w) g1
  obtain ⟨n, hn⟩ : ∃ n, ts.length = n := ⟨_, rfl⟩
  rw [Nat.zero_add, hn] at r1
  have hM1 := R1.max
  rw [Nat.zero_add, hn] at hM1
  have hT1 : TimsAt w1 va1 ts := R1.tims
  rw [hn] at hcp hr ⊢
  have HT : Hid (TimsAt w A ts) := hT
  have HN : Hid (ts.length = n) := hn
  have HR1 : Hid (_ = _) := r1
  obtain ⟨S, hS⟩ : ∃ S, putL true ts t v win = S := ⟨_, rfl⟩
  obtain ⟨O, hO⟩ : ∃ O, putL false ts t v win = O := ⟨_, rfl⟩
  obtain ⟨m, hm⟩ : ∃ m, S.length = m := ⟨_, rfl⟩
  obtain ⟨p, hp⟩ : ∃ p, O.length = p := ⟨_, rfl⟩
  obtain ⟨es, hes⟩ : ∃ es, putE true ts t v win = es := ⟨_, rfl⟩
  obtain ⟨eo, heo⟩ : ∃ eo, putE false ts t v win = eo := ⟨_, rfl⟩
  obtain ⟨ec, hec⟩ : ∃ ec, errI true ts = ec := ⟨_, rfl⟩
  obtain ⟨ed, hed⟩ : ∃ ed, errI false ts = ed := ⟨_, rfl⟩
  obtain ⟨bv, hbv⟩ : ∃ bv, bestV ts = bv := ⟨_, rfl⟩
  obtain ⟨bb, hbb⟩ : ∃ bb, bestB ts = bb := ⟨_, rfl⟩
  have HS : Hid (putL true ts t v win = S ∧ S.length = m ∧ putE true ts t v win = es) := ⟨hS, hm, hes⟩
  have HO : Hid (putL false ts t v win = O ∧ O.length = p ∧ putE false ts t v win = eo) := ⟨hO, hp, heo⟩
  have HE : Hid (errI true ts = ec ∧ errI false ts = ed ∧ bestV ts = bv ∧ bestB ts = bb) := ⟨hec, hed, hbv, hbb⟩
  have HB1 : Hid (Below w.heap.size w w1) := hB1
  have HT1 : Hid (TimsAt w1 va1 ts) := hT1
  have HM : Hid (n ≤ vc1) := hM1.1
  have HH : Hid (n * 16 ≤ 140737488351232) := hr
  have c2 := put_is va1 vc1 ts t v win true w1 hT1 n hn hM1.1 hr S hS m hm es hes
  clear hT hn r1 hS hO hm hp hes heo hec hed hbv hbb hB1 hT1 R1 g1 b0 hA hr hM1 hcp
  go_enter Try.func4, Try.ntmps4
  go_wp2_with (at_builtin; refine Lib.wpList_append_run (w.alloc (.cells #[] 28)) rfl (.tmp 22) (.tmp 23) 22 22 rfl (.slice (some ⟨w.heap.size, 0, none⟩) 0 0) (.slice A n cap) rfl rfl (.slice va1 n vc1) w1 HR1.out ?_)
  refine c2.mono ?_
  rintro e w2 ⟨va2, vc2, rfl, hR2, hB2⟩
  have HB2 : Hid (Below w.heap.size w w2) := Below.on HB1.out hB2
  have HT2 : Hid (TimsAt w2 va1 ts ∧ TimsAt w2 va2 S) := ⟨HT1.out.below hB2 (Nat.le_refl _), hR2.tims⟩
  have c3 := refPut_is A cap ts t v win true w2 (HT.out.below HB2.out (Nat.le_refl _)) n HN.out HH.out S HS.out.1 m HS.out.2.1 es HS.out.2.2
  clear c2 hB2 hR2 HB1 HT1 HR1
  go_wp2_with fail
  refine c3.mono ?_
  rintro e w3 ⟨va3, vc3, rfl, hR3, hB3⟩
  have HB3 : Hid (Below w.heap.size w w3) := Below.on HB2.out hB3
  have HT3 : Hid (TimsAt w3 va1 ts ∧ TimsAt w3 va2 S ∧ TimsAt w3 va3 S) := ⟨HT2.out.1.below hB3 (Nat.le_refl _), HT2.out.2.below hB3 (Nat.le_refl _), hR3.tims⟩
  have c4 := put_is va1 vc1 ts t v win false w3 HT3.out.1 n HN.out HM.out HH.out O HO.out.1 p HO.out.2.1 eo HO.out.2.2
  clear c3 hB3 hR3 HB2 HT2
  go_wp2_with fail
  refine c4.mono ?_
  rintro e w4 ⟨va4, vc4, rfl, hR4, hB4⟩
  have HB4 : Hid (Below w.heap.size w w4) := Below.on HB3.out hB4
  have HT4 : Hid (TimsAt w4 va1 ts ∧ TimsAt w4 va2 S ∧ TimsAt w4 va3 S ∧ TimsAt w4 va4 O) := ⟨HT3.out.1.below hB4 (Nat.le_refl _), HT3.out.2.1.below hB4 (Nat.le_refl _), HT3.out.2.2.below hB4 (Nat.le_refl _), hR4.tims⟩
  have c5 := refPut_is A cap ts t v win false w4 (HT.out.below HB4.out (Nat.le_refl _)) n HN.out HH.out O HO.out.1 p HO.out.2.1 eo HO.out.2.2
  clear c4 hB4 hR4 HB3 HT3
  go_wp2_with fail
  refine c5.mono ?_
  rintro e w5 ⟨va5, vc5, rfl, hR5, hB5⟩
  have HB5 : Hid (Below w.heap.size w w5) := Below.on HB4.out hB5
  have HT5 : Hid (TimsAt w5 va1 ts ∧ TimsAt w5 va4 O ∧ TimsAt w5 va5 O) := ⟨HT4.out.1.below hB5 (Nat.le_refl _), HT4.out.2.2.2.below hB5 (Nat.le_refl _), hR5.tims⟩
  have HS5 : Hid (TimsAt w5 va2 S ∧ TimsAt w5 va3 S) := ⟨HT4.out.2.1.below hB5 (Nat.le_refl _), HT4.out.2.2.1.below hB5 (Nat.le_refl _)⟩
  have c6 := best_is A cap ts w5 (HT.out.below HB5.out (Nat.le_refl _)) n HN.out bv HE.out.2.2.1 bb HE.out.2.2.2
  have c7 := refBest_is A cap ts w5 (HT.out.below HB5.out (Nat.le_refl _)) n HN.out bv HE.out.2.2.1 bb HE.out.2.2.2
  clear c5 hB5 hR5 HB4 HT4
  go_wp2_with fail
  refine c6.mono ?_
  rintro e w6 ⟨rfl, rfl⟩
  clear c6
  go_wp2_with fail
  refine c7.mono ?_
  rintro e w6 ⟨rfl, rfl⟩
  clear c7
  have c8 := same_any va2 va3 vc2 vc3 S w6 HS5.out.1 HS5.out.2 m HS.out.2.1
  go_wp2_with fail
  refine c8.mono ?_
  rintro e w7 ⟨rfl, hB7⟩
  have HB7 : Hid (Below w.heap.size w w7) := Below.on HB5.out hB7
  have HT7 : Hid (TimsAt w7 va1 ts) := HT5.out.1.below hB7 (Nat.le_refl _)
  have c9 := same_any va4 va5 vc4 vc5 O w7 (HT5.out.2.1.below hB7 (Nat.le_refl _)) (HT5.out.2.2.below hB7 (Nat.le_refl _)) p HO.out.2.1
  clear c8 hB7 HB5 HT5 HS5
  go_wp2_with fail
  refine c9.mono ?_
  rintro e w8 ⟨rfl, hB8⟩
  have HB8 : Hid (Below w.heap.size w w8) := Below.on HB7.out hB8
  have HT8 : Hid (TimsAt w8 va1 ts) := HT7.out.below hB8 (Nat.le_refl _)
  have c10 := check_is A cap ts true w8 (HT.out.below HB8.out (Nat.le_refl _)) n HN.out ec HE.out.1
  clear c9 hB8 HB7 HT7
  go_wp2_with fail
  refine c10.mono ?_
  rintro e w9 ⟨rfl, hB9⟩
  have HB9 : Hid (Below w.heap.size w w9) := Below.on HB8.out hB9
  have HT9 : Hid (TimsAt w9 va1 ts) := HT8.out.below hB9 (Nat.le_refl _)
  have c11 := refCheck_any A cap ts true w9 (HT.out.below HB9.out (Nat.le_refl _)) n HN.out ec HE.out.1
  clear c10 hB9 HB8 HT8
  go_wp2_with fail
  refine c11.mono ?_
  rintro e w10 ⟨rfl, hB10⟩
  have HB10 : Hid (Below w.heap.size w w10) := Below.on HB9.out hB10
  have HT10 : Hid (TimsAt w10 va1 ts) := HT9.out.below hB10 (Nat.le_refl _)
  have c12 := check_is A cap ts false w10 (HT.out.below HB10.out (Nat.le_refl _)) n HN.out ed HE.out.2.1
  clear c11 hB10 HB9 HT9
  go_wp2_with fail
  refine c12.mono ?_
  rintro e w11 ⟨rfl, hB11⟩
  have HB11 : Hid (Below w.heap.size w w11) := Below.on HB10.out hB11
  have HT11 : Hid (TimsAt w11 va1 ts) := HT10.out.below hB11 (Nat.le_refl _)
  have c13 := refCheck_any A cap ts false w11 (HT.out.below HB11.out (Nat.le_refl _)) n HN.out ed HE.out.2.1
  clear c12 hB11 HB10 HT10
  go_wp2_with fail
  refine c13.mono ?_
  rintro e w12 ⟨rfl, hB12⟩
  have HB12 : Hid (Below w.heap.size w w12) := Below.on HB11.out hB12
  have c14 := same_any va1 A vc1 cap ts w12 (HT11.out.below hB12 (Nat.le_refl _)) (HT.out.below HB12.out (Nat.le_refl _)) n HN.out
  clear c13 hB12 HB11 HT11
  go_wp2_with fail
  refine c14.mono ?_
  rintro e w13 ⟨rfl, hB13⟩
  have HB13 : Hid (Below w.heap.size w w13) := Below.on HB12.out hB13
  clear c14 hB13 HB12
  go_wp2_with fail
  refine (heads_any _).mono ?_
  rintro e w14 ⟨rfl, hB14⟩
  have HB14 : Hid (Below w.heap.size w w14) := Below.on HB13.out hB14
  clear hB14 HB13
  go_wp2_with fail
  go_ret
  exact ⟨rfl, HB14.out⟩
end Go.Proofs.Ytdacbmjahhefcaa
