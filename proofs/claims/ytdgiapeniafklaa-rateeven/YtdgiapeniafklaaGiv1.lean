/- Given, over records. -/
import Derived.Test.YtdgiapeniafklaaGivP
import Derived.Sort.CutIn
namespace Go.Proofs.Ytdgiapeniafklaa
open Go.ChangeShapes Go.WideShapes Go.ChangeAt Go.RowKit Go.Shelf
set_option linter.unusedVariables false
set_option linter.unusedSimpArgs false
attribute [local go_sem] Oper.semAt_some


set_option maxRecDepth 100000 in
set_option maxHeartbeats 4000000 in
theorem giv_run (q : Rt) (A : Option Addr) (cap : Nat) (ts : List Rc) (now low : Int) (w : World) (hT : RecsAt w A ts) (hI : ∀ x ∈ ts, RcI x) (k : okQ q = true) (q1 : tmB now = true) (q2 : tmB low = true) :
    Calls Try.prog 8 #[agv (rtL q), .slice A ts.length cap, .int .i64 now, .int .i64 low] w fun e w' => ((recsB ts = true ∧ e = .returned (.tuple #[agv (rtL (giv q ts now)), agv (smL (gvs q ts now low)), .int .i64 0])) ∨ (recsB ts = false ∧ e = .returned (.tuple #[agv (rtL rtZ), agv (smL smZ), .int .i64 2]))) ∧ Below w.heap.size w w' := by
  have HT : Hid (RecsAt w A ts) := hT
  have HI : Hid (∀ x ∈ ts, RcI x) := hI
  have hqq := ok_out k
  have ht1 := tm_out q1
  have ht2 := tm_out q2
  have c1 : ∀ W, Calls Try.prog 13 #[agv (rtL q)] W fun e w' => e = .returned (.int .i64 0) ∧ Below W.heap.size W w' := fun W => chk_is q (by unfold chkE; rw [if_pos k]) W
  have c2 : ∀ W, Calls Try.prog 17 #[.int .i64 now] W fun e w' => e = .returned (.bool true) ∧ w' = W := fun W => tm_is now q1 W
  have c3 : ∀ W, Calls Try.prog 17 #[.int .i64 low] W fun e w' => e = .returned (.bool true) ∧ w' = W := fun W => tm_is low q2 W
  have HQ : Hid (((0 ≤ q.gv ∧ q.gv ≤ 1125899906842624) ∧ (0 ≤ q.ga ∧ q.ga ≤ 1125899906842624) ∧ (0 ≤ q.fa ∧ q.fa ≤ 1125899906842624) ∧ (0 ≤ q.idt ∧ q.idt ≤ 1125899906842624)) ∧ (0 ≤ now ∧ now ≤ 1125899906842624) ∧ 0 ≤ low ∧ low ≤ 1125899906842624) := ⟨hqq, ht1, ht2⟩
  clear k q1 q2 hT hI hqq ht1 ht2
  refine (callsIn_wide (n := 6)).1 ?_
  refine callsIn_of_wp_marks Try.func8 rfl trivial ?_ rfl
  simp only [Try.ntmps8, List.size_toArray, List.length_cons, List.length_nil, Nat.reduceAdd, Nat.reduceSub, Array.replicate_succ, Array.replicate_zero, List.push_toArray, List.append_toArray, List.nil_append, List.cons_append]
  refine wpIn_wide.2 ?_
  go_wp2_with (first | (refine wpS_box rfl rfl rfl ?_))
  intro X1 bp HN
  have HX1 : Hid (Below w.heap.size w X1 ∧ Box X1 bp 23 (rtL q) ∧ w.heap.size ≤ bp ∧ True) := by
    have hb := Below.refl w.heap.size w
    obtain ⟨hg, hb2, bn⟩ := HN.out
    have hz := hb.size
    exact ⟨Below.on hb hb2, bn, by omega, trivial⟩
  clear HN 
  go_wp2_with (first | (refine wpS_alloc rfl rfl zero23 ?_))
  intro X2 br HN
  have HX2 : Hid (Below w.heap.size w X2 ∧ Box X2 bp 23 (rtL q) ∧ Box X2 br 23 (rtL rtZ) ∧ w.heap.size ≤ bp ∧ bp < br ∧ True) := by
    obtain ⟨hb, b0, l0, _⟩ := HX1.out
    obtain ⟨hg, hb2, bn⟩ := HN.out
    have z0 := b0.lt
    exact ⟨Below.on hb hb2, b0.later hb2, bn, l0, by omega, trivial⟩
  clear HN HX1
  go_wp2_with (first | (refine wpS_alloc rfl rfl zero26 ?_))
  intro X3 bs HN
  have HX3 : Hid (Below w.heap.size w X3 ∧ Box X3 bp 23 (rtL q) ∧ Box X3 br 23 (rtL rtZ) ∧ Box X3 bs 26 (smL smZ) ∧ w.heap.size ≤ bp ∧ bp < br ∧ br < bs ∧ True) := by
    obtain ⟨hb, b0, b1, l0, l1, _⟩ := HX2.out
    obtain ⟨hg, hb2, bn⟩ := HN.out
    have z0 := b0.lt
    have z1 := b1.lt
    exact ⟨Below.on hb hb2, b0.later hb2, b1.later hb2, bn, l0, l1, by omega, trivial⟩
  clear HN HX2
  go_wp2_with (first | (refine wpI_alloc rfl rfl zero27 ?_))
  intro X4 be HN
  have HX4 : Hid (Below w.heap.size w X4 ∧ Box X4 bp 23 (rtL q) ∧ Box X4 br 23 (rtL rtZ) ∧ Box X4 bs 26 (smL smZ) ∧ Box X4 be 27 ([.int .i64 0]) ∧ w.heap.size ≤ bp ∧ bp < br ∧ br < bs ∧ bs < be ∧ True) := by
    obtain ⟨hb, b0, b1, b2, l0, l1, l2, _⟩ := HX3.out
    obtain ⟨hg, hb2, bn⟩ := HN.out
    have z0 := b0.lt
    have z1 := b1.lt
    have z2 := b2.lt
    exact ⟨Below.on hb hb2, b0.later hb2, b1.later hb2, b2.later hb2, bn, l0, l1, l2, by omega, trivial⟩
  clear HN HX3
  go_wp2_with (first | (refine wpS_load rfl rfl rfl (HX4.out.2.1) isS23 ?_) | fail)
  refine (c1 _).mono ?_
  rintro e w5 ⟨rfl, hB⟩
  have HX5 : Hid (Below w.heap.size w w5 ∧ Box w5 bp 23 (rtL q) ∧ Box w5 br 23 (rtL rtZ) ∧ Box w5 bs 26 (smL smZ) ∧ Box w5 be 27 ([.int .i64 0]) ∧ w.heap.size ≤ bp ∧ bp < br ∧ br < bs ∧ bs < be ∧ True) := by
    obtain ⟨hb, b0, b1, b2, b3, l0, l1, l2, l3, _⟩ := HX4.out
    exact ⟨Below.on hb hB, b0.later hB, b1.later hB, b2.later hB, b3.later hB, l0, l1, l2, l3, trivial⟩
  clear hB HX4
  go_wp2_with fail
  refine (c2 _).mono ?_
  rintro e w' ⟨rfl, hq⟩
  obtain rfl := hq.symm
  clear hq
  go_wp2_with fail
  refine (c3 _).mono ?_
  rintro e w' ⟨rfl, hq⟩
  obtain rfl := hq.symm
  clear hq
  go_wp2_with (first | (refine wpS_buildL (ps := []) rfl rfl built33 ?_) | (refine wpI_alloc rfl rfl zero3 ?_))
  intro X6 ba HN
  have HX6 : Hid (Below w.heap.size w X6 ∧ Box X6 bp 23 (rtL q) ∧ Box X6 br 23 (rtL rtZ) ∧ Box X6 bs 26 (smL smZ) ∧ Box X6 be 27 ([.int .i64 0]) ∧ Box X6 ba 3 ([.int .i64 0]) ∧ w.heap.size ≤ bp ∧ bp < br ∧ br < bs ∧ bs < be ∧ be < ba ∧ True) := by
    obtain ⟨hb, b0, b1, b2, b3, l0, l1, l2, l3, _⟩ := HX5.out
    obtain ⟨hg, hb2, bn⟩ := HN.out
    have z0 := b0.lt
    have z1 := b1.lt
    have z2 := b2.lt
    have z3 := b3.lt
    exact ⟨Below.on hb hb2, b0.later hb2, b1.later hb2, b2.later hb2, b3.later hb2, bn, l0, l1, l2, l3, by omega, trivial⟩
  clear HN HX5
  go_wp2_with (first | (refine wpS_buildL (ps := []) rfl rfl built33 ?_) | (refine wpS_alloc rfl rfl zero33 ?_))
  intro X7 bo HN
  have HX7 : Hid (Below w.heap.size w X7 ∧ Box X7 bp 23 (rtL q) ∧ Box X7 br 23 (rtL rtZ) ∧ Box X7 bs 26 (smL smZ) ∧ Box X7 be 27 ([.int .i64 0]) ∧ Box X7 ba 3 ([.int .i64 0]) ∧ Box X7 bo 33 (rcL rcZ) ∧ w.heap.size ≤ bp ∧ bp < br ∧ br < bs ∧ bs < be ∧ be < ba ∧ ba < bo ∧ True) := by
    obtain ⟨hb, b0, b1, b2, b3, b4, l0, l1, l2, l3, l4, _⟩ := HX6.out
    obtain ⟨hg, hb2, bn⟩ := HN.out
    have z0 := b0.lt
    have z1 := b1.lt
    have z2 := b2.lt
    have z3 := b3.lt
    have z4 := b4.lt
    exact ⟨Below.on hb hb2, b0.later hb2, b1.later hb2, b2.later hb2, b3.later hb2, b4.later hb2, bn, l0, l1, l2, l3, l4, by omega, trivial⟩
  clear HN HX6
  have k0 := Box.cell (HX7.out.2.2.2.2.2.1) 0 rfl
  have fz := fun i => Box.frozen (HX7.out.2.2.2.2.2.1) i
  have HNE := HX7.out.2.2.2.2.2.2.2.2.2.2.2.2.1
  go_wp2_with (first | (refine wpS_store rfl rfl rfl rfl rfl ((HX7.out.2.2.2.2.2.2.1).aside _ _ _ (Nat.ne_of_gt HNE)) rfl isS33 (rcL_one _) ?_))
  intro X8 HN
  have HX8 : Hid (Below w.heap.size w X8 ∧ Box X8 bp 23 (rtL q) ∧ Box X8 br 23 (rtL rtZ) ∧ Box X8 bs 26 (smL smZ) ∧ Box X8 be 27 ([.int .i64 0]) ∧ Box X8 ba 3 ([.int .i64 0]) ∧ Box X8 bo 33 (rcL rcZ) ∧ w.heap.size ≤ bp ∧ bp < br ∧ br < bs ∧ bs < be ∧ be < ba ∧ ba < bo ∧ True) := by
    obtain ⟨hb, b0, b1, b2, b3, b4, b5, l0, l1, l2, l3, l4, l5, _⟩ := HX7.out
    obtain ⟨st, bn⟩ := HN.out
    exact ⟨st.below _ _ (by omega) (below_set hb _ _ _ (by omega)), (b0.aside _ _ _ (by omega)).sto st (by omega), (b1.aside _ _ _ (by omega)).sto st (by omega), (b2.aside _ _ _ (by omega)).sto st (by omega), (b3.aside _ _ _ (by omega)).sto st (by omega), (b4.set 0 _).sto st (by omega), bn, l0, l1, l2, l3, l4, l5, trivial⟩
  clear HN k0 fz HNE HX7
  go_wp2_with fail
  refine (callsIn_wide.1 (each_in Fence.wide 6 trivial rfl _ _ _ _)).mono ?_
  rintro e w3 ⟨rfl, rfl⟩
  obtain ⟨bl, hbl⟩ : ∃ bl, X8.heap.size = bl := ⟨_, rfl⟩
  have HW : ∃ W0, X8.alloc (.cells #[.slice A ts.length cap] 24) = W0 ∧ W0.heap.size = bl + 1 ∧ bo < bl ∧ GvAt w W0 bp br bs be ba bo q ts 0 ∧ Box W0 bl 24 [.slice A ts.length cap] := by
    obtain ⟨hb, b0, b1, b2, b3, b4, b5, l0, l1, l2, l3, l4, l5, _⟩ := HX8.out
    refine ⟨_, rfl, by simp [hbl], by have := b5.lt; omega, ⟨b0.alloc _, b1.alloc _, b2.alloc _, b3.alloc _, ?_, ?_, below_more hb _, l0, l1, l2, l3, l4, l5⟩, by rw [← hbl]; exact Box.new _ _ _⟩
    · rw [ackU_0]; exact b4.alloc _
    · rw [oneU_0]; exact b5.alloc _
  obtain ⟨W0, hW0, hs0, hob, hM0, hS0⟩ := HW
  rw [hbl]
  clear HX8 hbl c1 c2 c3
  rw [hW0]
  clear hW0
  go_wp2_with fail
  have hRn : ∀ k, readsL A ts.length k → k < w.heap.size := fun k hk => readsL_lt HT.out hk
  refine (wpIn_wide (n := 6)).1 ?_
  refine wpIn_deep (F := Fence.wide) (n := 6) rfl (by omega) (gf := 26) (lb := #[.pointer (some ⟨bl, 0, none⟩)]) rfl trivial (enters_of Try.func26 (by kernel_rfl) rfl)
    (each_deep 5 bl cap A ts W0 (readsL A ts.length) (fun k hk => by have := hRn k hk; have := hM0.h0; have := hM0.p.lt; omega) (HT.out.later hM0.bel) (fun b o e h0 => ⟨o, e, h0⟩) (Box.cell hS0 0 rfl))
    (Below.refl _ _) (fun _ => rfl) (fun k hk => by have := hRn k hk; have := hM0.h0; have := hM0.p.lt; omega)
    (fun pre Z V => GvAt w V bp br bs be ba bo q ts pre.length ∧ ∀ j, j < pre.length → recB (nth ts j) = true)
    (fun c pre Z V => c = .ret ∧ recsB ts = false ∧ Box V br 23 (rtL rtZ) ∧ Box V bs 26 (smL smZ) ∧ Box V be 27 [.int .i64 2] ∧ Below w.heap.size w V)
    ?hI ?hIx ⟨hM0, fun j hj => by simp at hj⟩ ?round ?done ?stop
  case hI =>
    rintro pre Z X Y ⟨h1, h2⟩ hA
    exact ⟨h1.apart hA (by omega), h2⟩
  case hIx =>
    have g0 := hM0.h0; have g1 := hM0.h1; have g2 := hM0.h2; have g3 := hM0.h3; have g4 := hM0.h4; have g5 := hM0.h5
    rintro c pre Z X Y ⟨h1, h2, h3, h4, h5, h7⟩ hA
    exact ⟨h1, h2, box_apart h3 hA (by omega), box_apart h4 hA (by omega), box_apart h5 hA (by omega), below_apart h7 (Nat.le_refl _) (by omega) hA⟩
  case round =>
    rintro l pre x Z W1 hl hll hz ⟨hM1, hall⟩ hG
    have HZ : Hid (∀ k, Z k → W0.heap.size ≤ k ∧ k < W1.heap.size ∧ k ≠ l) := hz
    obtain ⟨hi, hx⟩ := en_pre hG
    obtain ⟨i, hii⟩ : ∃ i, pre.length = i := ⟨_, rfl⟩
    have HLN : Hid ((pre ++ [x]).length = i + 1) := by simp [Hid, hii]
    rw [hii] at hi hM1 hall hx
    have HX0 : Hid (nth ts i = x) := hx.symm
    have HIX : Hid (RcI x) := by rw [hx]; exact HI.out _ (nth_mem hi)
    have HAL0 : Hid (∀ j, j < i → recB (nth ts j) = true) := hall
    obtain ⟨ak, hak⟩ : ∃ ak, ackU ts i = ak := ⟨_, rfl⟩
    have HAK : Hid (ackU ts i = ak) := hak
    obtain ⟨o, ho⟩ : ∃ o, oneU ts i = o := ⟨_, rfl⟩
    have HON : Hid (oneU ts i = o) := ho
    have hal : 0 ≤ ak ∧ ak ≤ 1125899906842624 := by rw [← hak]; exact ackU_in (by omega) hall
    have g0 := hM0.h0; have g1 := hM0.h1; have g2 := hM0.h2; have g3 := hM0.h3; have g4 := hM0.h4; have g5 := hM0.h5
    clear hz hG hii hx hall hM0 hS0 hak ho
    unfold RoundOwes
    gi_wp2
    refine ⟨Mine.alloc (fun k hk => (HZ.out k hk).2.1) _, ?_⟩
    intro W2 hg2 hr2
    have hbx : bo < W1.heap.size := by have := hM1.o.lt; omega
    have hlx : l < W1.heap.size := by first | assumption | omega
    obtain ⟨bx, hbxe⟩ : ∃ bx, W1.heap.size = bx := ⟨_, rfl⟩
    have HW2 : Hid (Box W2 bx 33 (rcL x) ∧ GvAt w W2 bp br bs be ba bo q ts i ∧ Mine W0.heap.size (readsL A ts.length) Z W2 Z W2 ∧ ∀ k, Z k → k < W2.heap.size) := ⟨by rw [← hbxe]; exact (Box.new W1 33 (rcL x)).kept hg2 (fun e => by cases e; omega), (hM1.alloc (.cells #[.int .i64 x.f, .int .i64 x.t, .bool x.fin, .int .i64 x.sent, .int .i64 x.tx, .bool x.sk, .bool x.lo, .bool x.ag, .int .i64 x.gv, .int .i64 x.ga, .int .i64 x.fa, .bool x.idl] 33)).kept hg2 (by omega), Mine.refl (fun k hk => by have h1 := (HZ.out k hk).2.1; have h2 := hg2.size; simp at h2; omega), fun k hk => by have h1 := (HZ.out k hk).2.1; have h2 := hg2.size; simp at h2; omega⟩
    rw [hbxe] at hbx ⊢
    clear hg2 hr2 hM1 HZ hlx hbxe
    obtain ⟨x0, x1, x2, x3, x4, x5, x6, x7, x8, x9, x10, x11⟩ := HW2.out.1.rc
    cases hr : recB x with
    | false =>
      have c1 : ∀ W, Calls Try.prog 19 #[.agg #[.int .i64 x.f, .int .i64 x.t, .bool x.fin, .int .i64 x.sent, .int .i64 x.tx, .bool x.sk, .bool x.lo, .bool x.ag, .int .i64 x.gv, .int .i64 x.ga, .int .i64 x.fa, .bool x.idl]] W fun e w' => e = .returned (.bool false) ∧ Below W.heap.size W w' := fun W => fits_is x HIX.out hr W
      have HN : Hid (recsB ts = false) := recs_no hi (by rw [HX0.out]; exact hr)
      clear hr
      gi_wp2_with fail
      refine ⟨trivial, ?_⟩
      gi_at_call 19
      refine (callsIn_wide.2 (c1 _)).mono ?_
      rintro e W3 ⟨rfl, hB3⟩
      have HW3 : Hid (Box W3 bx 33 (rcL x) ∧ GvAt w W3 bp br bs be ba bo q ts i ∧ Mine W0.heap.size (readsL A ts.length) Z W2 Z W3 ∧ ∀ k, Z k → k < W3.heap.size) := ⟨HW2.out.1.later hB3, HW2.out.2.1.later hB3, Mine.trans HW2.out.2.2.1 (Mine.of_below HW2.out.2.2.2 hB3), fun k hk => Nat.lt_of_lt_of_le (HW2.out.2.2.2 k hk) hB3.size⟩
      clear HW2 hB3 c1 x0 x1 x2 x3 x4 x5 x6 x7 x8 x9 x10 x11
      have f3 := fun j => Box.frozen HW3.out.2.1.r j
      have f4 := fun j => Box.frozen HW3.out.2.1.s j
      have f5 := fun j => Box.frozen HW3.out.2.1.e j
      have er0 := Box.cell HW3.out.2.1.r 0 rfl
      have er1 := Box.cell HW3.out.2.1.r 1 rfl
      have er2 := Box.cell HW3.out.2.1.r 2 rfl
      have er3 := Box.cell HW3.out.2.1.r 3 rfl
      have es0 := Box.cell HW3.out.2.1.s 0 rfl
      have es1 := Box.cell HW3.out.2.1.s 1 rfl
      have es2 := Box.cell HW3.out.2.1.s 2 rfl
      have es3 := Box.cell HW3.out.2.1.s 3 rfl
      have es4 := Box.cell HW3.out.2.1.s 4 rfl
      have es5 := Box.cell HW3.out.2.1.s 5 rfl
      have es6 := Box.cell HW3.out.2.1.s 6 rfl
      have es7 := Box.cell HW3.out.2.1.s 7 rfl
      have ee0 := Box.cell HW3.out.2.1.e 0 rfl
      gi_wp2
      have s1 := sto_all W3 br (rtL rtZ) 0 _ (Sto.refl _ _)
      have s2 := sto_all (setAll W3 br 0 (rtL rtZ)) bs (smL smZ) 0 _ (Sto.refl _ _)
      have s3 := (Sto.refl (setAll (setAll W3 br 0 (rtL rtZ)) bs 0 (smL smZ)) be).set 0 (.int .i64 2)
      have z1 : (setAll W3 br 0 (rtL rtZ)).heap.size = W3.heap.size := s1.size
      have z2 : (setAll (setAll W3 br 0 (rtL rtZ)) bs 0 (smL smZ)).heap.size = W3.heap.size := s2.size.trans s1.size
      have hM := HW3.out.2.1
      refine ⟨Z, Mine.trans HW3.out.2.2.1 (Mine.trans (mine_all (by omega) (fun h => by have := hRn _ h; omega) (rtL rtZ) 0 W3 HW3.out.2.2.2) (Mine.trans (mine_all (by omega) (fun h => by have := hRn _ h; omega) (smL smZ) 0 _ (fun k hk => by rw [z1]; exact HW3.out.2.2.2 k hk)) (mine_set (fun k hk => by rw [z2]; exact HW3.out.2.2.2 k hk) _ _ (by omega) (fun h => by have := hRn _ h; omega)))), rfl, HN.out, ?_, ?_, ?_, ?_⟩
      · exact ((hM.r.put (rtL rtZ) rfl).sto s2 (by omega)).sto s3 (by omega)
      · exact ((hM.s.sto s1 (by omega)).put (smL smZ) rfl).sto s3 (by omega)
      · exact ((hM.e.sto s1 (by omega)).sto s2 (by omega)).set 0 _
      · exact s3.below _ _ (by omega) (s2.below _ _ (by omega) (s1.below _ _ (by omega) hM.bel))
    | true =>
      have c1 : ∀ W, Calls Try.prog 19 #[.agg #[.int .i64 x.f, .int .i64 x.t, .bool x.fin, .int .i64 x.sent, .int .i64 x.tx, .bool x.sk, .bool x.lo, .bool x.ag, .int .i64 x.gv, .int .i64 x.ga, .int .i64 x.fa, .bool x.idl]] W fun e w' => e = .returned (.bool true) ∧ Below W.heap.size W w' := fun W => fits_is x HIX.out hr W
      have hro := (rec_out hr).1
      have HAL : Hid (∀ j, j < i + 1 → recB (nth ts j) = true) := fun j hj => by
        by_cases e : j = i
        · subst e; rw [HX0.out]; exact hr
        · exact HAL0.out j (by omega)
      obtain ⟨m, hm⟩ : ∃ m, min (ak + (x.t - x.f)) 1125899906842624 = m := ⟨_, rfl⟩
      have c2 : ∀ W, Calls Try.prog 20 #[.int .i64 (ak + (x.t - x.f))] W fun e w' => e = .returned (.int .i64 m) ∧ w' = W := fun W => held_is _ hm W
      have HMM : Hid (min (ackU ts i + (x.t - x.f)) 1125899906842624 = m) := by unfold Hid; rw [HAK.out]; exact hm
      have HTI : x.t ≤ 9223372036854775807 := HIX.out.t.2
      clear hr HAL0 hm
      gi_wp2_with fail
      refine ⟨trivial, ?_⟩
      gi_at_call 19
      refine (callsIn_wide.2 (c1 _)).mono ?_
      rintro e W3 ⟨rfl, hB3⟩
      have HW3 : Hid (Box W3 bx 33 (rcL x) ∧ GvAt w W3 bp br bs be ba bo q ts i ∧ Mine W0.heap.size (readsL A ts.length) Z W2 Z W3 ∧ ∀ k, Z k → k < W3.heap.size) := ⟨HW2.out.1.later hB3, HW2.out.2.1.later hB3, Mine.trans HW2.out.2.2.1 (Mine.of_below HW2.out.2.2.2 hB3), fun k hk => Nat.lt_of_lt_of_le (HW2.out.2.2.2 k hk) hB3.size⟩
      clear HW2 hB3 c1 x0 x1 x2 x3 x4 x5 x6 x7 x8 x9 x10 x11
      have x0 := HW3.out.1.rc.1
      have x1 := HW3.out.1.rc.2.1
      have n3 : W3.cell? ⟨ba, 0, none⟩ = some (.int .i64 ak) := by rw [← HAK.out]; exact Box.cell HW3.out.2.1.a 0 rfl
      have f3 := Box.frozen HW3.out.2.1.a 0
      gi_wp2_with fail
      refine ⟨trivial, ?_⟩
      gi_at_call 20
      refine (callsIn_wide.2 (c2 _)).mono ?_
      rintro e w' ⟨rfl, hq⟩
      obtain rfl := hq.symm
      clear hq c2
      gi_upto_region 12 with fail
      obtain ⟨W4, hW4⟩ : ∃ X, W3.setCell ⟨ba, 0, none⟩ (.int .i64 m) = X := ⟨_, rfl⟩
      try rw [hW4]
      clear x0 x1 n3 f3
      have hs4 : Sto W3 ba W4 := by rw [← hW4]; exact (Sto.refl _ _).set 0 _
      have HX4 : Hid (Box W4 bx 33 (rcL x) ∧ W4.cell? ⟨bo, 8, none⟩ = some (.int .i64 o.gv) ∧ Mine W0.heap.size (readsL A ts.length) Z W2 Z W4 ∧ (∀ k, Z k → k < W4.heap.size) ∧ Box W4 bo 33 (rcL o)) := by
        have hbo : Box W4 bo 33 (rcL o) := by rw [← HON.out]; exact HW3.out.2.1.o.sto hs4 (by omega)
        refine ⟨HW3.out.1.sto hs4 (by omega), Box.cell hbo 8 rfl, ?_, fun k hk => by rw [hs4.size]; exact HW3.out.2.2.2 k hk, hbo⟩
        rw [← hW4]
        exact Mine.trans HW3.out.2.2.1 (mine_set HW3.out.2.2.2 _ _ (by omega) (fun h => by have := hRn _ h; omega))
      obtain ⟨x0, x1, x2, x3, x4, x5, x6, x7, x8, x9, x10, x11⟩ := HX4.out.1.rc
      have o8 := HX4.out.2.1
      by_cases hc : o.gv ≤ x.gv
      · have d1 : decide (o.gv ≤ x.gv) = true := decide_eq_true hc
        have HC : Hid ((oneU ts i).gv ≤ x.gv) := by unfold Hid; rw [HON.out]; exact hc
        have HF : Hid (GvAt w (setAll W4 bo 0 (rcL x)) bp br bs be ba bo q ts (i + 1)) := by
          have := GvAt.nextB HW3.out.2.1 hi HX0.out HMM.out HC.out
          rw [hW4] at this
          exact this
        clear hW4 hs4
        have f13 := fun j => Box.frozen HX4.out.2.2.2.2 j
        have o13_0 := Box.cell HX4.out.2.2.2.2 0 rfl
        have o13_1 := Box.cell HX4.out.2.2.2.2 1 rfl
        have o13_2 := Box.cell HX4.out.2.2.2.2 2 rfl
        have o13_3 := Box.cell HX4.out.2.2.2.2 3 rfl
        have o13_4 := Box.cell HX4.out.2.2.2.2 4 rfl
        have o13_5 := Box.cell HX4.out.2.2.2.2 5 rfl
        have o13_6 := Box.cell HX4.out.2.2.2.2 6 rfl
        have o13_7 := Box.cell HX4.out.2.2.2.2 7 rfl
        have o13_8 := Box.cell HX4.out.2.2.2.2 8 rfl
        have o13_9 := Box.cell HX4.out.2.2.2.2 9 rfl
        have o13_10 := Box.cell HX4.out.2.2.2.2 10 rfl
        have o13_11 := Box.cell HX4.out.2.2.2.2 11 rfl
        gi_wp2
        refine ⟨Z, Mine.trans HX4.out.2.2.1 (mine_all (by omega) (fun h => by have := hRn _ h; omega) (rcL x) 0 W4 HX4.out.2.2.2.1), ?_, ?_⟩
        · rw [HLN.out]; exact HF.out
        · rw [HLN.out]; exact HAL.out
      · have d1 : decide (o.gv ≤ x.gv) = false := decide_eq_false hc
        have HC : Hid (¬ (oneU ts i).gv ≤ x.gv) := by unfold Hid; rw [HON.out]; exact hc
        have HF : Hid (GvAt w W4 bp br bs be ba bo q ts (i + 1)) := by
          have := GvAt.nextA HW3.out.2.1 hi HX0.out HMM.out HC.out
          rw [hW4] at this
          exact this
        clear hW4 hs4
        gi_wp2
        refine ⟨Z, by first | exact HX4.out.2.2.1 | (rw [← hs0]; exact HX4.out.2.2.1), ?_, ?_⟩
        · rw [HLN.out]; exact HF.out
        · rw [HLN.out]; exact HAL.out
  case done =>
    rintro bd ys Z W hD hz hys ⟨hM, hall⟩ hK
    obtain rfl := hys.symm
    clear hys
    have HRB : Hid (recsB ts = true) := recs_all hall
    have hai : 0 ≤ ackI ts ∧ ackI ts ≤ 1125899906842624 := by have := ackU_in (Nat.le_refl _) hall; rwa [ackU_all] at this
    have hoi := rec_out (show recB (oneR ts) = true by have := oneU_in (Nat.le_refl _) hall; rwa [oneU_all] at this)
    have ha := hM.a; have ho := hM.o
    rw [ackU_all] at ha
    rw [oneU_all] at ho
    obtain ⟨ak, hak⟩ : ∃ ak, ackI ts = ak := ⟨_, rfl⟩
    obtain ⟨x, hx⟩ : ∃ x, oneR ts = x := ⟨_, rfl⟩
    rw [hak] at ha hai
    rw [hx] at ho hoi
    have HX0 : Hid (Below w.heap.size w W ∧ Box W bp 23 (rtL q) ∧ Box W br 23 (rtL rtZ) ∧ Box W bs 26 (smL smZ) ∧ Box W be 27 ([.int .i64 0]) ∧ Box W ba 3 ([.int .i64 ak]) ∧ Box W bo 33 (rcL x) ∧ Def W bd ∧ w.heap.size ≤ bp ∧ bp < br ∧ br < bs ∧ bs < be ∧ be < ba ∧ ba < bo ∧ bo < bd ∧ True) := ⟨hM.bel, hM.p, hM.r, hM.s, hM.e, ha, ho, hK, hM.h0, hM.h1, hM.h2, hM.h3, hM.h4, hM.h5, by omega, trivial⟩
    have HPV : Hid ((ackI ts = ak ∧ oneR ts = x) ∧ (0 ≤ ak ∧ ak ≤ 1125899906842624)) := ⟨⟨hak, hx⟩, hai⟩
    have HOI := show Hid _ from hoi
    clear hM hall hak hx hai hoi ha ho hM0 hS0 hK hz hD
    by_cases h0 : ts = []
    · as_aux_lemma =>
      have HQ1 : Hid (giv q ts now = q) := by unfold Hid giv; rw [if_pos h0]
      have HS1 : Hid (gvs q ts now low = ⟨now, 0, 0, 0, false, q.gv, 0, 0⟩) := by unfold Hid gvs; rw [if_pos h0]
      have hl : ts.length = 0 := by rw [h0]; rfl
      rw [hl]
      clear h0 hl
      go_upto_region 15 with fail
      refine gv15_reg (by rfl) q x now low ak bp br bs be ba bo bd _ _  rfl rfl rfl rfl rfl (HX0.out.2.2.2.2.2.2.2.2.1) (HX0.out.2.2.2.2.2.2.2.2.2.1) (HX0.out.2.2.2.2.2.2.2.2.2.2.1) (HX0.out.2.2.2.2.2.2.2.2.2.2.2.1) (HX0.out.2.2.2.2.2.2.2.2.2.2.2.2.1) (HX0.out.2.2.2.2.2.2.2.2.2.2.2.2.2.1) (HX0.out.2.2.2.2.2.2.2.2.2.2.2.2.2.2.1) ⟨HX0.out.1, HX0.out.2.1, HX0.out.2.2.1, HX0.out.2.2.2.1, HX0.out.2.2.2.2.1, HX0.out.2.2.2.2.2.1, HX0.out.2.2.2.2.2.2.1, HX0.out.2.2.2.2.2.2.2.1, trivial⟩  ?_
      intro T X21  hS
      simp only [Act.put, List.setIfInBounds_toArray, List.set_cons_zero, List.set_cons_succ]
      have HX21 : Hid (Below w.heap.size w X21 ∧ Box X21 bp 23 (rtL q) ∧ Box X21 br 23 (rtL q) ∧ Box X21 bs 26 (smL (⟨now, 0, 0, 0, false, q.gv, 0, 0⟩ : Sm)) ∧ Box X21 be 27 ([.int .i64 0]) ∧ Box X21 ba 3 ([.int .i64 ak]) ∧ Box X21 bo 33 (rcL x) ∧ Def X21 bd ∧ w.heap.size ≤ bp ∧ bp < br ∧ br < bs ∧ bs < be ∧ be < ba ∧ ba < bo ∧ bo < bd ∧ True) := by
        obtain ⟨hb, b0, b1, b2, b3, b4, b5, b6, l0, l1, l2, l3, l4, l5, l6, _⟩ := HX0.out
        exact ⟨hS.1, hS.2.1, hS.2.2.1, hS.2.2.2.1, hS.2.2.2.2.1, hS.2.2.2.2.2.1, hS.2.2.2.2.2.2.1, hS.2.2.2.2.2.2.2.1, l0, l1, l2, l3, l4, l5, l6, trivial⟩
      clear hS HX0
      have HK : X21.heap[bd]? = some (.deferred (some [])) := HX21.out.2.2.2.2.2.2.2.1
      go_wp2_with fail
      refine ⟨by simp, .inl ⟨_, _, rfl, run_takeDeferred HK, ?_⟩⟩
      refine ⟨_, resCCC rfl _ _ rfl rfl rfl (box_put (HX21.out.2.2.1) (.deferred none) HK) (box_put (HX21.out.2.2.2.1) (.deferred none) HK) (box_put (HX21.out.2.2.2.2.1) (.deferred none) HK), .inl ⟨HRB.out, by rw [HQ1.out, HS1.out]⟩, Below.trans (HX21.out.1) (belowK_b (w := w) (Nat.le_refl _) _ bd _ _ (by have := HX21.out.2.2.2.2.2.2.2.2.1; have := HX21.out.2.2.2.2.2.2.2.2.2.1; have := HX21.out.2.2.2.2.2.2.2.2.2.2.1; have := HX21.out.2.2.2.2.2.2.2.2.2.2.2.1; have := HX21.out.2.2.2.2.2.2.2.2.2.2.2.2.1; have := HX21.out.2.2.2.2.2.2.2.2.2.2.2.2.2.1; have := HX21.out.2.2.2.2.2.2.2.2.2.2.2.2.2.2.1; omega) HK rfl rfl)⟩
    · obtain ⟨G, hG⟩ : ∃ G, min (q.gv + ak) 1125899906842624 = G := ⟨_, rfl⟩
      have hGb : 0 ≤ G ∧ G ≤ 1125899906842624 := by have := HPV.out.2; have := HQ.out.1.1; omega
      obtain ⟨rt, hrt⟩ : ∃ rt, rttI x now = rt := ⟨_, rfl⟩
      obtain ⟨rate, hrate⟩ : ∃ rate, spdI x G now low = rate := ⟨_, rfl⟩
      have hag : allG q ts = G := by unfold allG; rw [HPV.out.1.1]; exact hG
      have c4 : ∀ W, Calls Try.prog 20 #[.int .i64 (q.gv + ak)] W fun e w' => e = .returned (.int .i64 G) ∧ w' = W := fun W => held_is _ hG W
      have c5 : ∀ W, Calls Try.prog 21 #[agv (rcL x), .int .i64 now] W fun e w' => e = .returned (.int .i64 rt) ∧ Below W.heap.size W w' := fun W => rtt_is x now hrt (by have := HOI.out; have := HQ.out; omega) W
      have c6 : ∀ W, Calls Try.prog 22 #[agv (rcL x), .int .i64 G, .int .i64 now, .int .i64 low] W fun e w' => e = .returned (.int .i64 rate) ∧ Below W.heap.size W w' := fun W => spd_is x G now low (by have := HOI.out; have := HQ.out; omega) hrate W
      have HS1 : Hid (gvs q ts now low = ⟨now, ak, rt, rate, x.idl, G, x.gv, 0⟩) := by unfold Hid gvs; rw [if_neg h0, hag, HPV.out.1.1, HPV.out.1.2, hrt, hrate]
      have hpos : 0 < ts.length := by cases ts with | nil => exact absurd rfl h0 | cons a l => simp
      have hq1 : giv q ts now = ⟨G, now, x.sent, if q.idt < G then 0 else q.idt⟩ := by unfold giv; rw [if_neg h0, hag, HPV.out.1.2]
      have hqb : 0 ≤ q.gv ∧ q.gv ≤ 1125899906842624 ∧ 0 ≤ ak ∧ ak ≤ 1125899906842624 := by have := HPV.out.2; have := HQ.out.1.1; omega
      obtain ⟨L, hL⟩ : ∃ L, ts.length = L := ⟨_, rfl⟩
      rw [hL] at hpos ⊢
      have hne : ((L : Int) == 0) = false := by simp; omega
      clear hG hrt hrate hag h0 HOI HPV hL
      by_cases hc : q.idt < G
      · as_aux_lemma =>
        have d1 : decide (q.idt < G) = true := decide_eq_true hc
        have HQ1 : Hid (giv q ts now = ⟨G, now, x.sent, 0⟩) := by unfold Hid; rw [hq1, if_pos hc]
        clear hq1 hc
        have k0 := Box.cell (HX0.out.2.1) 0 rfl
        have a0 := Box.cell (HX0.out.2.2.2.2.2.1) 0 rfl
        have fz := fun i => Box.frozen (HX0.out.2.1) i
        go_wp2_with fail
        refine (c4 _).mono ?_
        rintro e w' ⟨rfl, hq⟩
        obtain rfl := hq.symm
        clear hq
        go_upto_region 17 with fail
        obtain ⟨X21, hX⟩ : ∃ X, W.setCell ⟨bp, 0, none⟩ (.int .i64 G) = X := ⟨_, rfl⟩
        try rw [hX]
        have HX21 : Hid (Below w.heap.size w X21 ∧ Box X21 bp 23 (rtL ⟨G, q.ga, q.fa, q.idt⟩) ∧ Box X21 br 23 (rtL rtZ) ∧ Box X21 bs 26 (smL smZ) ∧ Box X21 be 27 ([.int .i64 0]) ∧ Box X21 ba 3 ([.int .i64 ak]) ∧ Box X21 bo 33 (rcL x) ∧ Def X21 bd ∧ w.heap.size ≤ bp ∧ bp < br ∧ br < bs ∧ bs < be ∧ be < ba ∧ ba < bo ∧ bo < bd ∧ True) := by
          obtain ⟨hb, b0, b1, b2, b3, b4, b5, b6, l0, l1, l2, l3, l4, l5, l6, _⟩ := HX0.out
          subst hX
          exact ⟨below_set hb _ _ _ (by omega), b0.set 0 _, b1.aside _ _ _ (by omega), b2.aside _ _ _ (by omega), b3.aside _ _ _ (by omega), b4.aside _ _ _ (by omega), b5.aside _ _ _ (by omega), b6.aside _ _ _ (by omega), l0, l1, l2, l3, l4, l5, l6, trivial⟩
        clear hX HX0
        clear k0 a0 fz
        refine gv17_reg (by rfl) ⟨G, q.ga, q.fa, q.idt⟩ x now low ak bp br bs be ba bo bd _ _  rfl rfl rfl (HX21.out.2.2.2.2.2.2.2.2.1) (HX21.out.2.2.2.2.2.2.2.2.2.1) (HX21.out.2.2.2.2.2.2.2.2.2.2.1) (HX21.out.2.2.2.2.2.2.2.2.2.2.2.1) (HX21.out.2.2.2.2.2.2.2.2.2.2.2.2.1) (HX21.out.2.2.2.2.2.2.2.2.2.2.2.2.2.1) (HX21.out.2.2.2.2.2.2.2.2.2.2.2.2.2.2.1) ⟨HX21.out.1, HX21.out.2.1, HX21.out.2.2.1, HX21.out.2.2.2.1, HX21.out.2.2.2.2.1, HX21.out.2.2.2.2.2.1, HX21.out.2.2.2.2.2.2.1, HX21.out.2.2.2.2.2.2.2.1, trivial⟩  ?_
        intro T X22  hS
        simp only [Act.put, List.setIfInBounds_toArray, List.set_cons_zero, List.set_cons_succ]
        have HX22 : Hid (Below w.heap.size w X22 ∧ Box X22 bp 23 (rtL ⟨G, now, x.sent, q.idt⟩) ∧ Box X22 br 23 (rtL rtZ) ∧ Box X22 bs 26 (smL smZ) ∧ Box X22 be 27 ([.int .i64 0]) ∧ Box X22 ba 3 ([.int .i64 ak]) ∧ Box X22 bo 33 (rcL x) ∧ Def X22 bd ∧ w.heap.size ≤ bp ∧ bp < br ∧ br < bs ∧ bs < be ∧ be < ba ∧ ba < bo ∧ bo < bd ∧ True) := by
          obtain ⟨hb, b0, b1, b2, b3, b4, b5, b6, l0, l1, l2, l3, l4, l5, l6, _⟩ := HX21.out
          exact ⟨hS.1, hS.2.1, hS.2.2.1, hS.2.2.2.1, hS.2.2.2.2.1, hS.2.2.2.2.2.1, hS.2.2.2.2.2.2.1, hS.2.2.2.2.2.2.2.1, l0, l1, l2, l3, l4, l5, l6, trivial⟩
        clear hS HX21
        have k0 : X22.cell? ⟨bp, 0, none⟩ = some (.int .i64 G) := Box.cell (HX22.out.2.1) 0 rfl
        have k3 : X22.cell? ⟨bp, 3, none⟩ = some (.int .i64 q.idt) := Box.cell (HX22.out.2.1) 3 rfl
        have fz := fun i => Box.frozen (HX22.out.2.1) i
        go_upto_region 20 with fail
        obtain ⟨X23, hX⟩ : ∃ X, X22.setCell ⟨bp, 3, none⟩ (.int .i64 0) = X := ⟨_, rfl⟩
        try rw [hX]
        have HX23 : Hid (Below w.heap.size w X23 ∧ Box X23 bp 23 (rtL ⟨G, now, x.sent, 0⟩) ∧ Box X23 br 23 (rtL rtZ) ∧ Box X23 bs 26 (smL smZ) ∧ Box X23 be 27 ([.int .i64 0]) ∧ Box X23 ba 3 ([.int .i64 ak]) ∧ Box X23 bo 33 (rcL x) ∧ Def X23 bd ∧ w.heap.size ≤ bp ∧ bp < br ∧ br < bs ∧ bs < be ∧ be < ba ∧ ba < bo ∧ bo < bd ∧ True) := by
          obtain ⟨hb, b0, b1, b2, b3, b4, b5, b6, l0, l1, l2, l3, l4, l5, l6, _⟩ := HX22.out
          subst hX
          exact ⟨below_set hb _ _ _ (by omega), b0.set 3 _, b1.aside _ _ _ (by omega), b2.aside _ _ _ (by omega), b3.aside _ _ _ (by omega), b4.aside _ _ _ (by omega), b5.aside _ _ _ (by omega), b6.aside _ _ _ (by omega), l0, l1, l2, l3, l4, l5, l6, trivial⟩
        clear hX HX22
        clear k0 k3 fz
        refine gv20_reg (by rfl) ⟨G, now, x.sent, 0⟩ x now low ak bp br bs be ba bo bd _ _ rt rate rfl rfl rfl rfl rfl rfl rfl rfl (HX23.out.2.2.2.2.2.2.2.2.1) (HX23.out.2.2.2.2.2.2.2.2.2.1) (HX23.out.2.2.2.2.2.2.2.2.2.2.1) (HX23.out.2.2.2.2.2.2.2.2.2.2.2.1) (HX23.out.2.2.2.2.2.2.2.2.2.2.2.2.1) (HX23.out.2.2.2.2.2.2.2.2.2.2.2.2.2.1) (HX23.out.2.2.2.2.2.2.2.2.2.2.2.2.2.2.1) ⟨HX23.out.1, HX23.out.2.1, HX23.out.2.2.1, HX23.out.2.2.2.1, HX23.out.2.2.2.2.1, HX23.out.2.2.2.2.2.1, HX23.out.2.2.2.2.2.2.1, HX23.out.2.2.2.2.2.2.2.1, trivial⟩ c5 c6 ?_
        intro T X24  hS
        simp only [Act.put, List.setIfInBounds_toArray, List.set_cons_zero, List.set_cons_succ]
        have HX24 : Hid (Below w.heap.size w X24 ∧ Box X24 bp 23 (rtL ⟨G, now, x.sent, 0⟩) ∧ Box X24 br 23 (rtL ⟨G, now, x.sent, 0⟩) ∧ Box X24 bs 26 (smL ⟨now, ak, rt, rate, x.idl, G, x.gv, 0⟩) ∧ Box X24 be 27 ([.int .i64 0]) ∧ Box X24 ba 3 ([.int .i64 ak]) ∧ Box X24 bo 33 (rcL x) ∧ Def X24 bd ∧ w.heap.size ≤ bp ∧ bp < br ∧ br < bs ∧ bs < be ∧ be < ba ∧ ba < bo ∧ bo < bd ∧ True) := by
          obtain ⟨hb, b0, b1, b2, b3, b4, b5, b6, l0, l1, l2, l3, l4, l5, l6, _⟩ := HX23.out
          exact ⟨hS.1, hS.2.1, hS.2.2.1, hS.2.2.2.1, hS.2.2.2.2.1, hS.2.2.2.2.2.1, hS.2.2.2.2.2.2.1, hS.2.2.2.2.2.2.2.1, l0, l1, l2, l3, l4, l5, l6, trivial⟩
        clear hS HX23
        have HK : X24.heap[bd]? = some (.deferred (some [])) := HX24.out.2.2.2.2.2.2.2.1
        go_wp2_with fail
        refine ⟨by simp, .inl ⟨_, _, rfl, run_takeDeferred HK, ?_⟩⟩
        refine ⟨_, resCCC rfl _ _ rfl rfl rfl (box_put (HX24.out.2.2.1) (.deferred none) HK) (box_put (HX24.out.2.2.2.1) (.deferred none) HK) (box_put (HX24.out.2.2.2.2.1) (.deferred none) HK), .inl ⟨HRB.out, by rw [HQ1.out, HS1.out]⟩, Below.trans (HX24.out.1) (belowK_b (w := w) (Nat.le_refl _) _ bd _ _ (by have := HX24.out.2.2.2.2.2.2.2.2.1; have := HX24.out.2.2.2.2.2.2.2.2.2.1; have := HX24.out.2.2.2.2.2.2.2.2.2.2.1; have := HX24.out.2.2.2.2.2.2.2.2.2.2.2.1; have := HX24.out.2.2.2.2.2.2.2.2.2.2.2.2.1; have := HX24.out.2.2.2.2.2.2.2.2.2.2.2.2.2.1; have := HX24.out.2.2.2.2.2.2.2.2.2.2.2.2.2.2.1; omega) HK rfl rfl)⟩
      · as_aux_lemma =>
        have d1 : decide (q.idt < G) = false := decide_eq_false hc
        have HQ1 : Hid (giv q ts now = ⟨G, now, x.sent, q.idt⟩) := by unfold Hid; rw [hq1, if_neg hc]
        clear hq1 hc
        have k0 := Box.cell (HX0.out.2.1) 0 rfl
        have a0 := Box.cell (HX0.out.2.2.2.2.2.1) 0 rfl
        have fz := fun i => Box.frozen (HX0.out.2.1) i
        go_wp2_with fail
        refine (c4 _).mono ?_
        rintro e w' ⟨rfl, hq⟩
        obtain rfl := hq.symm
        clear hq
        go_upto_region 17 with fail
        obtain ⟨X21, hX⟩ : ∃ X, W.setCell ⟨bp, 0, none⟩ (.int .i64 G) = X := ⟨_, rfl⟩
        try rw [hX]
        have HX21 : Hid (Below w.heap.size w X21 ∧ Box X21 bp 23 (rtL ⟨G, q.ga, q.fa, q.idt⟩) ∧ Box X21 br 23 (rtL rtZ) ∧ Box X21 bs 26 (smL smZ) ∧ Box X21 be 27 ([.int .i64 0]) ∧ Box X21 ba 3 ([.int .i64 ak]) ∧ Box X21 bo 33 (rcL x) ∧ Def X21 bd ∧ w.heap.size ≤ bp ∧ bp < br ∧ br < bs ∧ bs < be ∧ be < ba ∧ ba < bo ∧ bo < bd ∧ True) := by
          obtain ⟨hb, b0, b1, b2, b3, b4, b5, b6, l0, l1, l2, l3, l4, l5, l6, _⟩ := HX0.out
          subst hX
          exact ⟨below_set hb _ _ _ (by omega), b0.set 0 _, b1.aside _ _ _ (by omega), b2.aside _ _ _ (by omega), b3.aside _ _ _ (by omega), b4.aside _ _ _ (by omega), b5.aside _ _ _ (by omega), b6.aside _ _ _ (by omega), l0, l1, l2, l3, l4, l5, l6, trivial⟩
        clear hX HX0
        clear k0 a0 fz
        refine gv17_reg (by rfl) ⟨G, q.ga, q.fa, q.idt⟩ x now low ak bp br bs be ba bo bd _ _  rfl rfl rfl (HX21.out.2.2.2.2.2.2.2.2.1) (HX21.out.2.2.2.2.2.2.2.2.2.1) (HX21.out.2.2.2.2.2.2.2.2.2.2.1) (HX21.out.2.2.2.2.2.2.2.2.2.2.2.1) (HX21.out.2.2.2.2.2.2.2.2.2.2.2.2.1) (HX21.out.2.2.2.2.2.2.2.2.2.2.2.2.2.1) (HX21.out.2.2.2.2.2.2.2.2.2.2.2.2.2.2.1) ⟨HX21.out.1, HX21.out.2.1, HX21.out.2.2.1, HX21.out.2.2.2.1, HX21.out.2.2.2.2.1, HX21.out.2.2.2.2.2.1, HX21.out.2.2.2.2.2.2.1, HX21.out.2.2.2.2.2.2.2.1, trivial⟩  ?_
        intro T X22  hS
        simp only [Act.put, List.setIfInBounds_toArray, List.set_cons_zero, List.set_cons_succ]
        have HX22 : Hid (Below w.heap.size w X22 ∧ Box X22 bp 23 (rtL ⟨G, now, x.sent, q.idt⟩) ∧ Box X22 br 23 (rtL rtZ) ∧ Box X22 bs 26 (smL smZ) ∧ Box X22 be 27 ([.int .i64 0]) ∧ Box X22 ba 3 ([.int .i64 ak]) ∧ Box X22 bo 33 (rcL x) ∧ Def X22 bd ∧ w.heap.size ≤ bp ∧ bp < br ∧ br < bs ∧ bs < be ∧ be < ba ∧ ba < bo ∧ bo < bd ∧ True) := by
          obtain ⟨hb, b0, b1, b2, b3, b4, b5, b6, l0, l1, l2, l3, l4, l5, l6, _⟩ := HX21.out
          exact ⟨hS.1, hS.2.1, hS.2.2.1, hS.2.2.2.1, hS.2.2.2.2.1, hS.2.2.2.2.2.1, hS.2.2.2.2.2.2.1, hS.2.2.2.2.2.2.2.1, l0, l1, l2, l3, l4, l5, l6, trivial⟩
        clear hS HX21
        have k0 : X22.cell? ⟨bp, 0, none⟩ = some (.int .i64 G) := Box.cell (HX22.out.2.1) 0 rfl
        have k3 : X22.cell? ⟨bp, 3, none⟩ = some (.int .i64 q.idt) := Box.cell (HX22.out.2.1) 3 rfl
        have fz := fun i => Box.frozen (HX22.out.2.1) i
        go_upto_region 20 with fail
        clear k0 k3 fz
        refine gv20_reg (by rfl) ⟨G, now, x.sent, q.idt⟩ x now low ak bp br bs be ba bo bd _ _ rt rate rfl rfl rfl rfl rfl rfl rfl rfl (HX22.out.2.2.2.2.2.2.2.2.1) (HX22.out.2.2.2.2.2.2.2.2.2.1) (HX22.out.2.2.2.2.2.2.2.2.2.2.1) (HX22.out.2.2.2.2.2.2.2.2.2.2.2.1) (HX22.out.2.2.2.2.2.2.2.2.2.2.2.2.1) (HX22.out.2.2.2.2.2.2.2.2.2.2.2.2.2.1) (HX22.out.2.2.2.2.2.2.2.2.2.2.2.2.2.2.1) ⟨HX22.out.1, HX22.out.2.1, HX22.out.2.2.1, HX22.out.2.2.2.1, HX22.out.2.2.2.2.1, HX22.out.2.2.2.2.2.1, HX22.out.2.2.2.2.2.2.1, HX22.out.2.2.2.2.2.2.2.1, trivial⟩ c5 c6 ?_
        intro T X23  hS
        simp only [Act.put, List.setIfInBounds_toArray, List.set_cons_zero, List.set_cons_succ]
        have HX23 : Hid (Below w.heap.size w X23 ∧ Box X23 bp 23 (rtL ⟨G, now, x.sent, q.idt⟩) ∧ Box X23 br 23 (rtL ⟨G, now, x.sent, q.idt⟩) ∧ Box X23 bs 26 (smL ⟨now, ak, rt, rate, x.idl, G, x.gv, 0⟩) ∧ Box X23 be 27 ([.int .i64 0]) ∧ Box X23 ba 3 ([.int .i64 ak]) ∧ Box X23 bo 33 (rcL x) ∧ Def X23 bd ∧ w.heap.size ≤ bp ∧ bp < br ∧ br < bs ∧ bs < be ∧ be < ba ∧ ba < bo ∧ bo < bd ∧ True) := by
          obtain ⟨hb, b0, b1, b2, b3, b4, b5, b6, l0, l1, l2, l3, l4, l5, l6, _⟩ := HX22.out
          exact ⟨hS.1, hS.2.1, hS.2.2.1, hS.2.2.2.1, hS.2.2.2.2.1, hS.2.2.2.2.2.1, hS.2.2.2.2.2.2.1, hS.2.2.2.2.2.2.2.1, l0, l1, l2, l3, l4, l5, l6, trivial⟩
        clear hS HX22
        have HK : X23.heap[bd]? = some (.deferred (some [])) := HX23.out.2.2.2.2.2.2.2.1
        go_wp2_with fail
        refine ⟨by simp, .inl ⟨_, _, rfl, run_takeDeferred HK, ?_⟩⟩
        refine ⟨_, resCCC rfl _ _ rfl rfl rfl (box_put (HX23.out.2.2.1) (.deferred none) HK) (box_put (HX23.out.2.2.2.1) (.deferred none) HK) (box_put (HX23.out.2.2.2.2.1) (.deferred none) HK), .inl ⟨HRB.out, by rw [HQ1.out, HS1.out]⟩, Below.trans (HX23.out.1) (belowK_b (w := w) (Nat.le_refl _) _ bd _ _ (by have := HX23.out.2.2.2.2.2.2.2.2.1; have := HX23.out.2.2.2.2.2.2.2.2.2.1; have := HX23.out.2.2.2.2.2.2.2.2.2.2.1; have := HX23.out.2.2.2.2.2.2.2.2.2.2.2.1; have := HX23.out.2.2.2.2.2.2.2.2.2.2.2.2.1; have := HX23.out.2.2.2.2.2.2.2.2.2.2.2.2.2.1; have := HX23.out.2.2.2.2.2.2.2.2.2.2.2.2.2.2.1; omega) HK rfl rfl)⟩
  case stop =>
    rintro D c pre Z W hD hz hpre ⟨rfl, hrb, b3, b4, b5, hB⟩ hK
    have HRB : Hid (recsB ts = false) := hrb
    have g0 := hM0.h0; have g1 := hM0.h1; have g2 := hM0.h2; have g3 := hM0.h3; have g4 := hM0.h4; have g5 := hM0.h5
    clear hM0 hS0 hpre hrb
    gi_wp2_with fail
    refine ⟨by simp, .inl ⟨_, _, rfl, run_takeDeferred hK, ?_⟩⟩
    refine ⟨_, resCCC rfl _ _ rfl rfl rfl (box_put b3 (.deferred none) hK) (box_put b4 (.deferred none) hK) (box_put b5 (.deferred none) hK), .inr ⟨HRB.out, rfl⟩, hB.trans (belowK_b (w := w) (Nat.le_refl _) _ D _ _ (by omega) hK rfl rfl)⟩
end Go.Proofs.Ytdgiapeniafklaa
