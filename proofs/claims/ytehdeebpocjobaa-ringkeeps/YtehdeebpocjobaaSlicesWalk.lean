/- The walk of RingSlices. -/
import Derived.Test.YtehdeebpocjobaaHeads
namespace Go.Proofs.Ytehdeebpocjobaa
open Go.ChangeShapes Go.WideShapes Go.ChangeAt Go.RowKit
set_option linter.unusedVariables false

/-- An append where the guard says yes. -/
theorem want_app {w : World} {ops : Array Oper} {rest : List Oper} {o : Oper} {a : Act} {Q : Exit → Act → World → Prop} (hw : Region.wanted o (yielded ops a.tmps) = true) (s x : Operand)
    (ho : o.op = .call { callee := .builtin .append, args := #[s, x], argTypes := #[22, 22] })
    (B : Nat) (va : Option Addr) (L vc : Nat) (bs : List Int) (xa : Option Addr) (m xc : Nat) (news : List Int) (hs : a.eval s = .slice va L vc) (hx : a.eval x = .slice xa m xc)
    (hR : Row w B va L vc bs) (hn : BytesAt w xa news) (hl : news.length = m) (h0 : xa = none → xc = 0) (hb : L + m ≤ 140737488355328) (hB : B ≤ w.heap.size)
    (h : ∀ va' vc' w', Row w' B va' (L + m) vc' (bs ++ news) → Below B w w' → w.grownBy w' (Value.ownBlock (.slice va L vc)) → wpList Try.prog ops Q rest (a.put o.dst (.slice va' (L + m) vc')) w') : wpList Try.prog ops Q (o :: rest) a w :=
  BigFrame.wpList_want hw fun K hK => by
    obtain ⟨va', vc', w', hr, h1, h2, h3⟩ := app_run w B va L vc bs xa m xc news o.type hR hn hl h0 hb hB
    unfold Oper.wp execOp
    simp only [ho, resolve, invoke, builtin, Sem.run_bind, Sem.run_pure, Result.andThen_ok, List.map_toArray, List.map_cons, List.map_nil, hs, hx, hr]
    exact hK _ _ (h va' vc' w' h1 h2 h3)
theorem want_app0 {w : World} {ops : Array Oper} {rest : List Oper} {o : Oper} {a : Act} {Q : Exit → Act → World → Prop} (hw : Region.wanted o (yielded ops a.tmps) = true) (s x : Operand)
    (ho : o.op = .call { callee := .builtin .append, args := #[s, x], argTypes := #[22, 22] })
    (B : Nat) (va : Option Addr) (vc : Nat) (xa : Option Addr) (m xc : Nat) (news : List Int) (hs : a.eval s = .slice va 0 vc) (hx : a.eval x = .slice xa m xc)
    (hR : Row w B va 0 vc []) (hn : BytesAt w xa news) (hl : news.length = m) (h0 : xa = none → xc = 0) (hb : m ≤ 140737488355328) (hB : B ≤ w.heap.size)
    (h : ∀ va' vc' w', Row w' B va' m vc' news → Below B w w' → wpList Try.prog ops Q rest (a.put o.dst (.slice va' m vc')) w') : wpList Try.prog ops Q (o :: rest) a w :=
  want_app hw s x ho B va 0 vc [] xa m xc news hs hx hR hn hl h0 (by omega) hB (fun va' vc' w' h1 h2 h3 => by
    have hz : 0 + m = m := Nat.zero_add m
    rw [hz] at h1 ⊢
    exact h va' vc' w' (by simpa using h1) h2)
theorem same_is (a b : Option Addr) (c d : Nat) (xs : List Int) (w : World) (n : Nat) (hn : xs.length = n) (ha : BytesAt w a xs) (hb : BytesAt w b xs) :
    Calls Try.prog 24 #[.slice a n c, .slice b n d] w fun e w' => e = .returned (.bool true) ∧ w' = w := by
  subst hn
  have := same_any a b c d xs xs w ha hb
  simpa using this

theorem cut_cat {bs : List Int} {f t u : Nat} (h1 : f ≤ t) (h2 : t ≤ u) (h3 : u ≤ bs.length) : (bs.take t).drop f ++ (bs.take u).drop t = (bs.take u).drop f := by
  have e : bs.take u = bs.take t ++ (bs.take u).drop t := by
    conv => lhs; rw [← List.take_append_drop t (bs.take u)]
    rw [List.take_take, Nat.min_eq_left h2]
  conv => rhs; rw [e]
  rw [List.drop_append_of_le_length (by rw [List.length_take]; omega)]
theorem sl_cat {r : Rg} {x y z : Int} (h1 : slE r x y = 0) (h2 : slE r y z = 0) : slE r x z = 0 ∧ slL r x y ++ slL r y z = slL r x z ∧ ((slL r x y).length : Int) = y - x := by
  have g1 : slB r.b r.bs.length r.k x y = true := by
    unfold slE at h1; split at h1
    · assumption
    · cases h1
  have g2 : slB r.b r.bs.length r.k y z = true := by
    unfold slE at h2; split at h2
    · assumption
    · cases h2
  obtain ⟨o1, a1, a2, a3⟩ := sl_out g1
  obtain ⟨o2, b1, b2, b3⟩ := sl_out g2
  have g3 := sl_in (f := x) (t := z) o1 ⟨a1, by omega, b3⟩
  refine ⟨by rw [slE, if_pos g3], ?_, ?_⟩
  · rw [slL, slL, slL, if_pos g1, if_pos g2, if_pos g3]
    exact cut_cat (by omega) (by omega) (by omega)
  · rw [slL, if_pos g1, List.length_drop, List.length_take]
    omega
theorem slE_two (r : Rg) (x y : Int) : slE r x y = 0 ∨ slE r x y = 2 := by unfold slE; split <;> simp

set_option maxRecDepth 100000 in
set_option maxHeartbeats 4000000 in
theorem slices_walk (b : Int) (a : Option Addr) (n c : Nat) (k : Int) (q : Bool) (bs : List Int) (x y z : Int) (w : World) (hR : SlAt w a c bs) (hn : bs.length = n) (hb : I64 b) (hk : I64 k) (hx : I64 x) (hy : I64 y) (hz : I64 z) :
    Calls Try.prog 6 #[.agg #[.int .i64 b, .slice a n c, .int .i64 k, .bool q], .int .i64 x, .int .i64 y, .int .i64 z] w fun e w' => e = .returned (.bool true) ∧ Below w.heap.size w w' := by
  have hX0 := BoxR.new w (.int .i64 b) (.slice a n c) (.int .i64 k) (.bool q)
  have hb0 : Below w.heap.size w (w.alloc (.cells #[.int .i64 b, .slice a n c, .int .i64 k, .bool q] 24)) := below_more (Below.refl _ _) _
  have HB0 : Hid (Below w.heap.size w (w.alloc (.cells #[.int .i64 b, .slice a n c, .int .i64 k, .bool q] 24))) := hb0
  have HX0 : Hid (BoxR (w.alloc (.cells #[.int .i64 b, .slice a n c, .int .i64 k, .bool q] 24)) w.heap.size (.int .i64 b) (.slice a n c) (.int .i64 k) (.bool q)) := hX0
  have HD : Hid (SlAt w a c bs ∧ bs.length = n ∧ I64 b ∧ I64 k ∧ I64 x ∧ I64 y ∧ I64 z) := ⟨hR, hn, hb, hk, hx, hy, hz⟩
  obtain ⟨S1, hS1⟩ : ∃ S, slL ⟨b, bs, k, q⟩ x y = S := ⟨_, rfl⟩
  obtain ⟨L1, hL1⟩ : ∃ L, S1.length = L := ⟨_, rfl⟩
  obtain ⟨r1, hr1⟩ : ∃ r, slE ⟨b, bs, k, q⟩ x y = r := ⟨_, rfl⟩
  obtain ⟨S2, hS2⟩ : ∃ S, slL ⟨b, bs, k, q⟩ y z = S := ⟨_, rfl⟩
  obtain ⟨L2, hL2⟩ : ∃ L, S2.length = L := ⟨_, rfl⟩
  obtain ⟨r2, hr2⟩ : ∃ r, slE ⟨b, bs, k, q⟩ y z = r := ⟨_, rfl⟩
  obtain ⟨S3, hS3⟩ : ∃ S, slL ⟨b, bs, k, q⟩ x z = S := ⟨_, rfl⟩
  obtain ⟨L3, hL3⟩ : ∃ L, S3.length = L := ⟨_, rfl⟩
  obtain ⟨r3, hr3⟩ : ∃ r, slE ⟨b, bs, k, q⟩ x z = r := ⟨_, rfl⟩
  have H1 : Hid (slL ⟨b, bs, k, q⟩ x y = S1 ∧ S1.length = L1 ∧ slE ⟨b, bs, k, q⟩ x y = r1) := ⟨hS1, hL1, hr1⟩
  have H2 : Hid (slL ⟨b, bs, k, q⟩ y z = S2 ∧ S2.length = L2 ∧ slE ⟨b, bs, k, q⟩ y z = r2) := ⟨hS2, hL2, hr2⟩
  have H3 : Hid (slL ⟨b, bs, k, q⟩ x z = S3 ∧ S3.length = L3 ∧ slE ⟨b, bs, k, q⟩ x z = r3) := ⟨hS3, hL3, hr3⟩
  have t1 := slE_two ⟨b, bs, k, q⟩ x y
  have t2 := slE_two ⟨b, bs, k, q⟩ y z
  rw [hr1] at t1
  rw [hr2] at t2
  rcases t1 with rfl | rfl
  · rcases t2 with rfl | rfl
    · obtain ⟨g1, g2, g3⟩ := sl_cat hr1 hr2
      rw [hr3] at g1
      subst g1
      rw [hS1, hS2, hS3] at g2
      rw [hS1, hL1] at g3
      have hl12 : L1 + L2 = L3 := by rw [← hL3, ← g2, List.length_append, hL1, hL2]
      have hbig : L3 ≤ 140737488351232 := by
        rw [← hL3, ← hS3]
        have := hR.1.1
        unfold slL
        split
        · rw [List.length_drop, List.length_take]; simp only; omega
        · simp
      have HG : Hid (S1 ++ S2 = S3 ∧ L1 + L2 = L3 ∧ L3 ≤ 140737488351232) := ⟨g2, hl12, hbig⟩
      have hw1 : IntKind.i64.wrap (y - x) = (L1 : Int) := by rw [← g3, IntKind.wrap_i64]; omega
      have hl1 : L1 ≤ 140737488351232 := by omega
      clear g2 g3 hl12 hbig
      have c1 := slice_is b a n c k q bs x y (w.alloc (.cells #[.int .i64 b, .slice a n c, .int .i64 k, .bool q] 24)) (HD.out.1.later HB0.out) HD.out.2.1 HD.out.2.2.1 HD.out.2.2.2.1 HD.out.2.2.2.2.1 HD.out.2.2.2.2.2.1 S1 H1.out.1 L1 H1.out.2.1 _ H1.out.2.2
      clear hR hn hb hk hx hy hz hX0 hb0 hS1 hL1 hr1 hS2 hL2 hr2 hS3 hL3 hr3
      go_enter Try.func6, Try.ntmps6
      go_wp2_with fail
      refine c1.mono ?_
      rintro e w1 ⟨va1, vc1, rfl, hO1, hB1⟩
      have HB1 : Hid (Below w.heap.size w w1) := Below.on HB0.out hB1
      have hX1 := HX0.out.later hB1
      have HX1 : Hid (BoxR w1 w.heap.size (.int .i64 b) (.slice a n c) (.int .i64 k) (.bool q) ∧ SlAt w1 va1 vc1 S1) := ⟨hX1, hO1.sl⟩
      obtain ⟨k0, k1, k2, k3⟩ := hX1.cells
      have c2 := slice_is b a n c k q bs y z w1 (HD.out.1.later HB1.out) HD.out.2.1 HD.out.2.2.1 HD.out.2.2.2.1 HD.out.2.2.2.2.2.1 HD.out.2.2.2.2.2.2 S2 H2.out.1 L2 H2.out.2.1 _ H2.out.2.2
      clear c1 hO1 hB1 hX1 HB0 HX0
      go_wp2_with fail
      refine c2.mono ?_
      rintro e w2 ⟨va2, vc2, rfl, hO2, hB2⟩
      have HB2 : Hid (Below w.heap.size w w2) := Below.on HB1.out hB2
      have hX2 := HX1.out.1.later hB2
      have HX2 : Hid (BoxR w2 w.heap.size (.int .i64 b) (.slice a n c) (.int .i64 k) (.bool q) ∧ SlAt w2 va1 vc1 S1 ∧ SlAt w2 va2 vc2 S2) := ⟨hX2, HX1.out.2.later hB2, hO2.sl⟩
      clear k0 k1 k2 k3
      obtain ⟨k0, k1, k2, k3⟩ := hX2.cells
      have c3 := slice_is b a n c k q bs x z w2 (HD.out.1.later HB2.out) HD.out.2.1 HD.out.2.2.1 HD.out.2.2.2.1 HD.out.2.2.2.2.1 HD.out.2.2.2.2.2.2 S3 H3.out.1 L3 H3.out.2.1 _ H3.out.2.2
      clear c2 hO2 hB2 hX2 HB1 HX1
      go_wp2_with fail
      refine c3.mono ?_
      rintro e w3 ⟨va3, vc3, rfl, hO3, hB3⟩
      have HB3 : Hid (Below w.heap.size w w3) := Below.on HB2.out hB3
      have HX3 : Hid (SlAt w3 va1 vc1 S1 ∧ SlAt w3 va2 vc2 S2 ∧ SlAt w3 va3 vc3 S3) := ⟨HX2.out.2.1.later hB3, HX2.out.2.2.later hB3, hO3.sl⟩
      clear c3 hO3 hB3 HB2 HX2 k0 k1 k2 k3
      have hrow := row_empty w3 w3.heap.size (Nat.le_refl _)
      have hbe : Below w3.heap.size w3 (w3.alloc (.cells #[] 5)) := below_more (Below.refl _ _) _
      have HE : Hid (Row (w3.alloc (.cells #[] 5)) w3.heap.size (some ⟨w3.heap.size, 0, none⟩) 0 0 [] ∧ Below w3.heap.size w3 (w3.alloc (.cells #[] 5))) := ⟨hrow, hbe⟩
      clear hrow hbe
      go_wp2_with (first
        | (at_builtin; refine want_app0 (by rfl) (.tmp 54) (.tmp 55) rfl w3.heap.size (some ⟨w3.heap.size, 0, none⟩) 0 va1 L1 vc1 S1 rfl rfl HE.out.1 (HX3.out.1.later HE.out.2).1 H1.out.2.1 HX3.out.1.2.1 (by omega) HE.out.2.size ?_; intro va4 vc4 w4 hR4 hB4; have HF : Hid (Row w4 w3.heap.size va4 L1 vc4 S1 ∧ Below w3.heap.size w3 w4) := ⟨hR4, HE.out.2.trans hB4⟩; clear hR4 hB4)
        | (at_builtin; refine want_app (by rfl) (.tmp 56) (.tmp 57) rfl w3.heap.size va4 L1 vc4 S1 va2 L2 vc2 S2 rfl rfl HF.out.1 (HX3.out.2.1.later HF.out.2).1 H2.out.2.1 HX3.out.2.1.2.1 (by have := HG.out.2; omega) HF.out.2.size ?_; intro va5 vc5 w5 hR5 hB5 _; have HM : Hid (Row w5 w3.heap.size va5 (L1 + L2) vc5 (S1 ++ S2) ∧ Below w3.heap.size w3 w5) := ⟨hR5, HF.out.2.trans hB5⟩; clear hR5 hB5)
        | (go_at_call 24; rw [HG.out.2.1] at *; refine (same_is va5 va3 vc5 vc3 S3 w5 L3 H3.out.2.1 (by have h1 := HM.out.1; rw [HG.out.1] at h1; exact h1.bytes (HX3.out.2.2.1.2.1) (by rw [H3.out.2.1]; exact HG.out.2.2)) (HX3.out.2.2.later HM.out.2).1).mono ?_; rintro e w6 ⟨rfl, rfl⟩)
        | (go_at_call 19; refine (heads_any _).mono ?_; rintro e w7 ⟨rfl, hB7⟩))
      go_ret
      exact ⟨rfl, Below.on HB3.out (Below.on HM.out.2 hB7)⟩
    · have hd : ((2 : Int) == 0) = false := by decide
      have c1 := slice_is b a n c k q bs x y (w.alloc (.cells #[.int .i64 b, .slice a n c, .int .i64 k, .bool q] 24)) (HD.out.1.later HB0.out) HD.out.2.1 HD.out.2.2.1 HD.out.2.2.2.1 HD.out.2.2.2.2.1 HD.out.2.2.2.2.2.1 S1 H1.out.1 L1 H1.out.2.1 _ H1.out.2.2
      clear hR hn hb hk hx hy hz hX0 hb0 hS1 hL1 hr1 hS2 hL2 hr2 hS3 hL3 hr3
      go_enter Try.func6, Try.ntmps6
      go_wp2_with fail
      refine c1.mono ?_
      rintro e w1 ⟨va1, vc1, rfl, hO1, hB1⟩
      have HB1 : Hid (Below w.heap.size w w1) := Below.on HB0.out hB1
      have hX1 := HX0.out.later hB1
      have HX1 : Hid (BoxR w1 w.heap.size (.int .i64 b) (.slice a n c) (.int .i64 k) (.bool q) ∧ SlAt w1 va1 vc1 S1) := ⟨hX1, hO1.sl⟩
      obtain ⟨k0, k1, k2, k3⟩ := hX1.cells
      have c2 := slice_is b a n c k q bs y z w1 (HD.out.1.later HB1.out) HD.out.2.1 HD.out.2.2.1 HD.out.2.2.2.1 HD.out.2.2.2.2.2.1 HD.out.2.2.2.2.2.2 S2 H2.out.1 L2 H2.out.2.1 _ H2.out.2.2
      clear c1 hO1 hB1 hX1 HB0 HX0
      go_wp2_with fail
      refine c2.mono ?_
      rintro e w2 ⟨va2, vc2, rfl, hO2, hB2⟩
      have HB2 : Hid (Below w.heap.size w w2) := Below.on HB1.out hB2
      have hX2 := HX1.out.1.later hB2
      have HX2 : Hid (BoxR w2 w.heap.size (.int .i64 b) (.slice a n c) (.int .i64 k) (.bool q) ∧ SlAt w2 va1 vc1 S1 ∧ SlAt w2 va2 vc2 S2) := ⟨hX2, HX1.out.2.later hB2, hO2.sl⟩
      clear k0 k1 k2 k3
      obtain ⟨k0, k1, k2, k3⟩ := hX2.cells
      have c3 := slice_is b a n c k q bs x z w2 (HD.out.1.later HB2.out) HD.out.2.1 HD.out.2.2.1 HD.out.2.2.2.1 HD.out.2.2.2.2.1 HD.out.2.2.2.2.2.2 S3 H3.out.1 L3 H3.out.2.1 _ H3.out.2.2
      clear c2 hO2 hB2 hX2 HB1 HX1
      go_wp2_with fail
      refine c3.mono ?_
      rintro e w3 ⟨va3, vc3, rfl, hO3, hB3⟩
      have HB3 : Hid (Below w.heap.size w w3) := Below.on HB2.out hB3
      have HX3 : Hid (SlAt w3 va1 vc1 S1 ∧ SlAt w3 va2 vc2 S2 ∧ SlAt w3 va3 vc3 S3) := ⟨HX2.out.2.1.later hB3, HX2.out.2.2.later hB3, hO3.sl⟩
      clear c3 hO3 hB3 HB2 HX2 k0 k1 k2 k3
      go_wp2_with fail
      refine (heads_any _).mono ?_
      rintro e w4 ⟨rfl, hB4⟩
      go_wp2_with fail
      go_ret
      exact ⟨rfl, Below.on HB3.out hB4⟩
  · have hd : ((2 : Int) == 0) = false := by decide
    have c1 := slice_is b a n c k q bs x y (w.alloc (.cells #[.int .i64 b, .slice a n c, .int .i64 k, .bool q] 24)) (HD.out.1.later HB0.out) HD.out.2.1 HD.out.2.2.1 HD.out.2.2.2.1 HD.out.2.2.2.2.1 HD.out.2.2.2.2.2.1 S1 H1.out.1 L1 H1.out.2.1 _ H1.out.2.2
    clear hR hn hb hk hx hy hz hX0 hb0 hS1 hL1 hr1 hS2 hL2 hr2 hS3 hL3 hr3
    go_enter Try.func6, Try.ntmps6
    go_wp2_with fail
    refine c1.mono ?_
    rintro e w1 ⟨va1, vc1, rfl, hO1, hB1⟩
    have HB1 : Hid (Below w.heap.size w w1) := Below.on HB0.out hB1
    have hX1 := HX0.out.later hB1
    have HX1 : Hid (BoxR w1 w.heap.size (.int .i64 b) (.slice a n c) (.int .i64 k) (.bool q) ∧ SlAt w1 va1 vc1 S1) := ⟨hX1, hO1.sl⟩
    obtain ⟨k0, k1, k2, k3⟩ := hX1.cells
    have c2 := slice_is b a n c k q bs y z w1 (HD.out.1.later HB1.out) HD.out.2.1 HD.out.2.2.1 HD.out.2.2.2.1 HD.out.2.2.2.2.2.1 HD.out.2.2.2.2.2.2 S2 H2.out.1 L2 H2.out.2.1 _ H2.out.2.2
    clear c1 hO1 hB1 hX1 HB0 HX0
    go_wp2_with fail
    refine c2.mono ?_
    rintro e w2 ⟨va2, vc2, rfl, hO2, hB2⟩
    have HB2 : Hid (Below w.heap.size w w2) := Below.on HB1.out hB2
    have hX2 := HX1.out.1.later hB2
    have HX2 : Hid (BoxR w2 w.heap.size (.int .i64 b) (.slice a n c) (.int .i64 k) (.bool q) ∧ SlAt w2 va1 vc1 S1 ∧ SlAt w2 va2 vc2 S2) := ⟨hX2, HX1.out.2.later hB2, hO2.sl⟩
    clear k0 k1 k2 k3
    obtain ⟨k0, k1, k2, k3⟩ := hX2.cells
    have c3 := slice_is b a n c k q bs x z w2 (HD.out.1.later HB2.out) HD.out.2.1 HD.out.2.2.1 HD.out.2.2.2.1 HD.out.2.2.2.2.1 HD.out.2.2.2.2.2.2 S3 H3.out.1 L3 H3.out.2.1 _ H3.out.2.2
    clear c2 hO2 hB2 hX2 HB1 HX1
    go_wp2_with fail
    refine c3.mono ?_
    rintro e w3 ⟨va3, vc3, rfl, hO3, hB3⟩
    have HB3 : Hid (Below w.heap.size w w3) := Below.on HB2.out hB3
    have HX3 : Hid (SlAt w3 va1 vc1 S1 ∧ SlAt w3 va2 vc2 S2 ∧ SlAt w3 va3 vc3 S3) := ⟨HX2.out.2.1.later hB3, HX2.out.2.2.later hB3, hO3.sl⟩
    clear c3 hO3 hB3 HB2 HX2 k0 k1 k2 k3
    go_wp2_with fail
    refine (heads_any _).mono ?_
    rintro e w4 ⟨rfl, hB4⟩
    go_wp2_with fail
    go_ret
    exact ⟨rfl, Below.on HB3.out hB4⟩
end Go.Proofs.Ytehdeebpocjobaa
