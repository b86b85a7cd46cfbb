/- Texts: AnW. -/
import Derived.Test.YtdodagpkkjpdiaaQA52
import Derived.Test.YtdodagpkkjpdiaaQA48
namespace Go.Proofs.Ytdodagpkkjpdiaa
open Go.ChangeShapes Go.WideShapes Go.ChangeAt Go.RowKit Go.Shelf
set_option linter.unusedVariables false
set_option linter.unusedSimpArgs false
attribute [local go_sem] Oper.semAt_some
theorem built24n (irs : Int) (tn : Nat) : Try.prog.built 24 [(1, .int .i64 (tn : Int)), (2, .int .u32 irs), (4, .int .u32 77), (8, .bool true)] = some (asL (Pl.ansA tn 0 irs)).toArray := by kernel_rfl
theorem u64_nonneg (y : Int) : 0 ≤ IntKind.u64.wrap y := by
  simp only [IntKind.wrap, IntKind.signed, IntKind.bits]
  simp
  omega
theorem place_of (y : Int) (tn : Nat) (h : tn ≤ 200) : ∃ x : Nat, wrap64 ((IntKind.u64.wrap y).tmod ((tn : Int) + 1)) = (x : Int) ∧ x ≤ tn := by
  have h0 := u64_nonneg y
  generalize IntKind.u64.wrap y = u at *
  rw [Int.tmod_eq_emod_of_nonneg h0]
  have h1 := Int.emod_nonneg u (b := (tn : Int) + 1) (by omega)
  have h2 := Int.emod_lt_of_pos u (b := (tn : Int) + 1) (by omega)
  generalize u % ((tn : Int) + 1) = z at *
  refine ⟨z.toNat, ?_, by omega⟩
  unfold wrap64
  omega
theorem part_of (y : Int) : ∃ n : Nat, wrap64 ((IntKind.u64.wrap y / 1024).tmod 16) = (n : Int) ∧ n ≤ 15 := by
  have h0 := u64_nonneg y
  generalize IntKind.u64.wrap y = u at *
  rw [Int.tmod_eq_emod_of_nonneg (by omega)]
  refine ⟨(u / 1024 % 16).toNat, ?_, by omega⟩
  unfold wrap64
  omega
theorem ansA_i {r : Pl.Rv} {tn : Nat} {irs : Int} (hg : Pl.Ans r tn irs) (hi : U32 irs) (h : tn ≤ 200) : AsI (Pl.ansA tn r.s.n irs) := by
  have h0 := hg.ok.n0
  have h1 := hg.ok.nf
  unfold Pl.farI at h1
  exact { una := (by show I64 r.s.n; unfold I64; omega), nxt := (by show I64 (tn : Int); unfold I64; omega), per := (by show I64 0; unfold I64; decide), rcn := (by show U32 0; unfold U32; decide), now := (by show U32 0; unfold U32; decide), iss := hi, irs := (by show U32 77; unfold U32; decide) }
/-- How many bytes lie in these pieces. -/
def lateI (l : List En) : Int := (l.map fun e => (e.bs.length : Int)).sum
theorem lateI_0 : ∀ l : List En, 0 ≤ lateI l
  | [] => Int.le_refl _
  | x :: r => by have := lateI_0 r; show 0 ≤ ((x :: r).map fun e => (e.bs.length : Int)).sum; rw [List.map_cons, List.sum_cons]; unfold lateI at this; omega
theorem lateI_app (l r : List En) : lateI (l ++ r) = lateI l + lateI r := by simp [lateI]
theorem lateI_take (l : List En) (j : Nat) (x : En) (h : l[j]? = some x) : lateI (l.take (j + 1)) = lateI (l.take j) + (x.bs.length : Int) := by
  rw [List.take_add_one, h, lateI_app]
  simp [lateI]
theorem lateI_le (l : List En) (j : Nat) : lateI (l.take j) ≤ lateI l := by
  have h := lateI_app (l.take j) (l.drop j)
  rw [List.take_append_drop] at h
  have := lateI_0 (l.drop j)
  omega
theorem late_is {l : List En} {q : List Pl.Pc} (h : l.map En.pc = q) : lateI l = sizeL (Pl.spansL q) := by
  rw [Pl.spans_size, ← h, List.map_map]
  rfl
set_option maxRecDepth 100000 in
set_option maxHeartbeats 4000000 in
theorem an_far1 (irs : Int) (pa : Option Addr) (pn pc : Nat) (ps : List Int) (ta : Option Addr) (tn tc : Nat) (ts : List Int) (w : World) (h : 200 < tn) : Calls Try.prog 7 #[.int .u32 irs, .slice pa pn pc, .slice ta tn tc] w fun e w' => e = .returned (.bool true) ∧ Below w.heap.size w w' := by
  have h' : (200 : Int) < (tn : Int) := by omega
  go_enter Try.func7, Try.ntmps7
  go_wp2_with fail
  refine (heads_is _).mono ?_
  rintro e w1 ⟨rfl, hB⟩
  have HX1 : Hid (Below w.heap.size w w1 ∧ True) := by
    have hb := Below.refl w.heap.size w
    exact ⟨Below.on hb hB, trivial⟩
  clear hB  
  go_wp2_with fail
  go_ret
  exact ⟨rfl, HX1.out.1⟩
set_option maxRecDepth 100000 in
set_option maxHeartbeats 4000000 in
theorem an_far2 (irs : Int) (pa : Option Addr) (pn pc : Nat) (ps : List Int) (ta : Option Addr) (tn tc : Nat) (ts : List Int) (w : World) (h1 : tn ≤ 200) (h : 100 < pn) : Calls Try.prog 7 #[.int .u32 irs, .slice pa pn pc, .slice ta tn tc] w fun e w' => e = .returned (.bool true) ∧ Below w.heap.size w w' := by
  have h1' : ¬ (200 : Int) < (tn : Int) := by omega
  have h' : (100 : Int) < (pn : Int) := by omega
  go_enter Try.func7, Try.ntmps7
  go_wp2_with fail
  refine (heads_is _).mono ?_
  rintro e w1 ⟨rfl, hB⟩
  have HX1 : Hid (Below w.heap.size w w1 ∧ True) := by
    have hb := Below.refl w.heap.size w
    exact ⟨Below.on hb hB, trivial⟩
  clear hB  
  go_wp2_with fail
  go_ret
  exact ⟨rfl, HX1.out.1⟩
set_option maxRecDepth 100000 in
set_option maxHeartbeats 4000000 in
theorem an_near (irs : Int) (pa : Option Addr) (pn pc : Nat) (ps : List Int) (ta : Option Addr) (tn tc : Nat) (ts : List Int) (w : World) (HP : Hid (SlAt w ta tc ts ∧ ts.length = tn ∧ U32 irs ∧ IntsAt w pa ps ∧ ps.length = pn)) (h1 : tn ≤ 200) (h2 : pn ≤ 100) : Calls Try.prog 7 #[.int .u32 irs, .slice pa pn pc, .slice ta tn tc] w fun e w' => e = .returned (.bool true) ∧ Below w.heap.size w w' := by
  go_enter Try.func7, Try.ntmps7
  have h1' : ¬ (200 : Int) < (tn : Int) := by omega
  have h2' : ¬ (100 : Int) < (pn : Int) := by omega
  obtain ⟨R0, hR0⟩ : ∃ R0, Pl.newR 1000 0 irs 77 false true = R0 := ⟨_, rfl⟩
  have k1 := new_is irs w
  rw [hR0] at k1
  have HG0 : Hid (Pl.Ans R0 tn irs ∧ R0.recent = 0 ∧ R0.s.n = 0 ∧ ∀ W B, RvOwn W B R0 noH) := ⟨by rw [← hR0]; exact Pl.ans_new _ _, by rw [← hR0]; rfl, by rw [← hR0]; rfl, fun W B => by rw [← hR0]; exact new_own irs W B⟩
  clear hR0
  go_wp2_with fail
  refine (k1).mono ?_
  rintro e w1 ⟨rfl, hB⟩
  have HX1 : Hid (Below w.heap.size w w1 ∧ True) := by
    have hb := Below.refl w.heap.size w
    exact ⟨Below.on hb hB, trivial⟩
  clear hB  
  clear k1
  go_wp2_with (first | (refine wpS_alloc rfl rfl zero46 ?_))
  intro X2 g7 HN
  have HX2 : Hid (Below w.heap.size w X2 ∧ Box X2 g7 46 (rvL rvZ noH) ∧ w.heap.size ≤ g7 ∧ True) := by
    obtain ⟨hb, _⟩ := HX1.out
    obtain ⟨hg, hb2, bn⟩ := HN.out
    have hz := hb.size
    exact ⟨Below.on hb hb2, bn, by omega, trivial⟩
  clear HN HX1
  go_wp2_with (first | (refine wpS_store rfl rfl rfl rfl rfl (HX2.out.2.1) rfl isS46 (rvL_one _) ?_))
  intro X3 HN
  have HX3 : Hid (Below w.heap.size w X3 ∧ Box X3 g7 46 (rvL R0 noH) ∧ w.heap.size ≤ g7 ∧ True) := by
    obtain ⟨hb, b0, l0, _⟩ := HX2.out
    obtain ⟨st, bn⟩ := HN.out
    exact ⟨st.below _ _ (by omega) hb, bn, l0, trivial⟩
  clear HN HX2
  go_wp2_with (first | (refine wpS_buildL (cs := asL (Pl.ansA tn 0 irs)) (ps := [(1, .tmp 37), (2, .tmp 38), (4, .const (.int .u32 77)), (8, .const (.bool true))]) rfl rfl ?hb ?_; case hb => (show Try.prog.built 24 [(1, .int .i64 (tn : Int)), (2, .int .u32 irs), (4, .int .u32 77), (8, .bool true)] = _; exact built24n irs tn)) | (refine wpS_alloc rfl rfl zero24 ?_))
  intro X4 g9 HN
  have HX4 : Hid (Below w.heap.size w X4 ∧ Box X4 g7 46 (rvL R0 noH) ∧ Box X4 g9 24 (asL asZ) ∧ w.heap.size ≤ g7 ∧ g7 < g9 ∧ True) := by
    obtain ⟨hb, b0, l0, _⟩ := HX3.out
    obtain ⟨hg, hb2, bn⟩ := HN.out
    have z0 := b0.lt
    exact ⟨Below.on hb hb2, b0.later hb2, bn, l0, by omega, trivial⟩
  clear HN HX3
  go_wp2_with (first | (refine wpS_store rfl rfl rfl rfl rfl (HX4.out.2.2.1) rfl isS24 (asL_one _) ?_))
  intro X5 HN
  have HX5 : Hid (Below w.heap.size w X5 ∧ Box X5 g7 46 (rvL R0 noH) ∧ Box X5 g9 24 (asL (Pl.ansA tn 0 irs)) ∧ w.heap.size ≤ g7 ∧ g7 < g9 ∧ True) := by
    obtain ⟨hb, b0, b1, l0, l1, _⟩ := HX4.out
    obtain ⟨st, bn⟩ := HN.out
    exact ⟨st.below _ _ (by omega) hb, b0.sto st (by omega), bn, l0, l1, trivial⟩
  clear HN HX4
  have HG : Hid (w.heap.size ≤ g7 ∧ g7 < g9) := ⟨HX5.out.2.2.2.1, HX5.out.2.2.2.2.1⟩
  have HST : Hid (AnsAt w X5 g7 g9 R0 noH tn irs) := { good := HG0.out.1, rcn := HG0.out.2.1, own := HG0.out.2.2.2 _ _, box := (HX5.out.2.1), ask := (by rw [HG0.out.2.2.1]; exact (HX5.out.2.2.1)), bel := HX5.out.1 }
  clear HX5 HG0
  go_wp2_with fail
  go_loopw [10] (fun vi wr => ∃ (r : Pl.Rv) (h : Hd) (i : Nat), vi = .int .i64 (i : Int) ∧ i ≤ pn ∧ Hid (AnsAt w wr g7 g9 r h tn irs)) (fun vi _ => pn - (intOf vi).toNat)
  case atStart => exact ⟨R0, noH, 0, rfl, Nat.zero_le _, HST⟩
  case round =>
    obtain ⟨r, h, i, rfl, hin, HR⟩ := hrel
    clear HST
    by_cases hi' : i < pn
    · have hlt : (i : Int) < (pn : Int) := by omega
      obtain ⟨pb, pf, rfl, hcell, hpy⟩ := HP.out.2.2.2.1.later HR.out.bel i (by rw [HP.out.2.2.2.2]; exact hi')
      obtain ⟨py, hpyy⟩ : ∃ x, ps[i]?.getD 0 = x := ⟨_, rfl⟩
      rw [hpyy] at hcell hpy
      unfold I64 at hpy
      clear hpyy
      obtain ⟨x, hx, hxt⟩ := place_of py tn h1
      obtain ⟨z, hz, hzt⟩ := part_of py
      obtain ⟨t, ht⟩ : ∃ t : Nat, min (tn : Int) ((x : Int) + (z : Int) + 1) = (t : Int) := ⟨min tn (x + z + 1), by omega⟩
      have hm1 := fun W => min2 ht W
      go_upto_region 12 with fail
      have hxt2 : x ≤ t := by omega
      have htn : t ≤ ts.length := by rw [HP.out.2.1]; omega
      have hl2 : ts.length ≤ 200 := by rw [HP.out.2.1]; exact h1
      have hg : Pl.Ans r ts.length irs := by rw [HP.out.2.1]; exact HR.out.good
      have hT1 := (HP.out.1.later HR.out.bel).cut2 x t hxt2 htn
      obtain ⟨A, hA⟩ : ∃ A, Pl.inR r (segOf (pcS irs x ((ts.take t).drop x))) = A := ⟨_, rfl⟩
      obtain ⟨TT, hTT⟩ : ∃ TT, tellS (Pl.intoR r (segOf (pcS irs x ((ts.take t).drop x)))) (blkL r (segOf (pcS irs x ((ts.take t).drop x)))) = TT := ⟨_, rfl⟩
      have c10 := fun W (hW : Below wr.heap.size wr W) => input_is r h irs ts x t (cutB ta tc x) (tc - x) W ((HR.out.lies HP.out.2.2.1).later hW) hg hxt2 htn hl2 (hT1.1.later hW) A hA TT hTT
      obtain ⟨hh, hH⟩ : ∃ hh, Ak.hear (Pl.ansA tn r.s.n irs) (snOf TT) = hh := ⟨_, rfl⟩
      obtain ⟨n, hn⟩ : ∃ n, hh.sp.length = n := ⟨_, rfl⟩
      have HM : Hid (Pl.Ans A tn irs ∧ A.recent = 0 ∧ hh.cn = true ∧ hh.old = false ∧ hh.ak = A.s.n ∧ (A.s.l.length ≤ 3 → hh.sp = Pl.spansL A.s.l)) := by
        obtain ⟨wn, hwn⟩ := answer_is hg hxt2 htn hl2
        have h3 := Pl.ans_heard hg (piece_of irs ts x t hxt2 htn hl2) wn
        obtain ⟨_, _, _, h4⟩ := Pl.ans_in hg (piece_of irs ts x t hxt2 htn hl2)
        have h5 := rec_in hg HR.out.rcn hxt2 htn hl2
        rw [← hwn, hTT, hA, HP.out.2.1, hH] at h3
        rw [hA] at h4 h5
        have h6 := h4.ans
        rw [HP.out.2.1] at h6
        exact ⟨h6, h5, h3⟩
      have HI : Hid (AsI (Pl.ansA tn r.s.n irs)) := ansA_i HR.out.good HP.out.2.2.1 h1
      have hsl : ∀ W, (Instr.slice 26 (.slice ta tn tc) (some (.int .i64 (x : Int))) (some (.int .i64 (t : Int))) none).run Try.prog W = .ok (.slice (cutB ta tc x) (t - x) (tc - x)) W := fun W => sl_lh ta tn tc x t _ _ rfl rfl hxt2 (by have := HP.out.1.2.2; have := HP.out.2.1; omega) W
      refine an12_reg (by rfl) r A h TT (Pl.ansA tn r.s.n irs) irs ta tc tn x t ((ts.take t).drop x) g7 g9 wr.heap.size wr.heap.size wr rfl rfl (by first | rfl | exact congrArg (Value.int .i64) hx) rfl rfl (Nat.le_refl _) HR.out.box.lt HR.out.ask.lt hT1.2 hsl c10 ⟨Below.refl _ _, Nat.le_refl _, HR.out.box, HR.out.ask⟩ ?_
      intro c T X9 h16 h17 h20 h21 hS
      simp only [Act.put, List.setIfInBounds_toArray, List.set_cons_zero, List.set_cons_succ]
      simp only [h16, h17, h20, h21]
      obtain ⟨s0, s1, s2, s3, s4, s5, s6, _⟩ := hS
      have m4 := s4 rfl
      have m5 := s5 rfl
      have m6 := s6 rfl
      rw [if_pos rfl, if_pos rfl] at m5 m6
      obtain ⟨gn, hgn⟩ : ∃ x, c.b 16 = x := ⟨_, rfl⟩
      obtain ⟨gs, hgs⟩ : ∃ x, c.b 17 = x := ⟨_, rfl⟩
      obtain ⟨k, hk⟩ : ∃ x, c.k = x := ⟨_, rfl⟩
      obtain ⟨kt, hkt⟩ : ∃ x, c.kt = x := ⟨_, rfl⟩
      rw [hk] at m4 m5
      rw [hkt] at m4 m6
      rw [hgn] at m5
      rw [hgs] at m6
      rw [hgn, hgs]
      have HX0 : Hid (Below w.heap.size w X9 ∧ Box X9 g7 46 (rvL r h) ∧ Box X9 g9 24 (asL (Pl.ansA tn r.s.n irs)) ∧ Box X9 gn 46 (rvL A k) ∧ Box X9 gs 28 (sgL TT kt) ∧ w.heap.size ≤ g7 ∧ g7 < g9 ∧ g9 < gn ∧ g9 < gs ∧ RvOwn X9 w.heap.size A k ∧ SgOwn X9 w.heap.size TT kt ∧ True) := by
        have z1 := HR.out.ask.lt
        exact ⟨Below.on HR.out.bel s0, s2, s3, m5.2, m6.2, HG.out.1, HG.out.2, Nat.lt_of_lt_of_le z1 m5.1, Nat.lt_of_lt_of_le z1 m6.1, m4.1.mono HR.out.bel.size, m4.2.mono' HR.out.bel.size, trivial⟩
      clear s0 s1 s2 s3 s4 s5 s6 m4 m5 m6 hgn hgs hk hkt h16 h17 h20 h21 hx hz ht hm1 hcell hpy hsl hT1 c10 hTT hA hg HR
      go_wp2_with (first | (refine wpS_load rfl rfl rfl (HX0.out.2.2.2.1) isS46 ?_) | (refine wpS_store rfl rfl rfl rfl rfl (HX0.out.2.1) rfl isS46 (rvL_one _) ?_))
      intro X10 HN
      have HX10 : Hid (Below w.heap.size w X10 ∧ Box X10 g7 46 (rvL A k) ∧ Box X10 g9 24 (asL (Pl.ansA tn r.s.n irs)) ∧ Box X10 gn 46 (rvL A k) ∧ Box X10 gs 28 (sgL TT kt) ∧ w.heap.size ≤ g7 ∧ g7 < g9 ∧ g9 < gn ∧ g9 < gs ∧ RvOwn X10 w.heap.size A k ∧ SgOwn X10 w.heap.size TT kt ∧ True) := by
        obtain ⟨hb, b0, b1, b2, b3, l0, l1, l2, l3, r0, r1, _⟩ := HX0.out
        obtain ⟨st, bn⟩ := HN.out
        exact ⟨st.below _ _ (by omega) hb, bn, b1.sto st (by omega), b2.sto st (by omega), b3.sto st (by omega), l0, l1, l2, l3, r0.stoB st b0 (by decide), r1.stoB st b0 (by decide), trivial⟩
      clear HN HX0
      go_wp2_with (first | (refine wpS_load rfl rfl rfl (HX10.out.2.2.1) isS24 ?_) | (refine wpS_load rfl rfl rfl (HX10.out.2.2.2.2.1) isS28 ?_) | fail)
      refine (weigh_is (Pl.ansA tn r.s.n irs) TT kt HI.out X10 ((HX10.out.2.2.2.2.2.2.2.2.2.2.1).row.blks (by have := (HX10.out.2.2.2.2.2.2.2.2.2.2.1).four; omega)) (by have := (HX10.out.2.2.2.2.2.2.2.2.2.2.1).four; omega)).mono ?_
      unfold WgE
      rw [hH, hn]
      rintro e w11 ⟨va, vc, rfl, hR, hB⟩
      have HX11 : Hid (Below w.heap.size w w11 ∧ Box w11 g7 46 (rvL A k) ∧ Box w11 g9 24 (asL (Pl.ansA tn r.s.n irs)) ∧ Box w11 gn 46 (rvL A k) ∧ Box w11 gs 28 (sgL TT kt) ∧ w.heap.size ≤ g7 ∧ g7 < g9 ∧ g9 < gn ∧ g9 < gs ∧ RvOwn w11 w.heap.size A k ∧ SgOwn w11 w.heap.size TT kt ∧ RowT w11 w.heap.size va n vc hh.sp ∧ True) := by
        obtain ⟨hb, b0, b1, b2, b3, l0, l1, l2, l3, r0, r1, _⟩ := HX10.out
        exact ⟨Below.on hb hB, b0.later hB, b1.later hB, b2.later hB, b3.later hB, l0, l1, l2, l3, r0.below hB (Nat.le_refl _), r1.below hB (Nat.le_refl _), hR.mono hb.size, trivial⟩
      clear hB hR HX10
      go_wp2_with (first | (refine wpS_alloc rfl rfl zero31 ?_))
      intro X12 q HN
      have HX12 : Hid (Below w.heap.size w X12 ∧ Box X12 g7 46 (rvL A k) ∧ Box X12 g9 24 (asL (Pl.ansA tn r.s.n irs)) ∧ Box X12 gn 46 (rvL A k) ∧ Box X12 gs 28 (sgL TT kt) ∧ Box X12 q 31 (hcL hcZ) ∧ w.heap.size ≤ g7 ∧ g7 < g9 ∧ g9 < gn ∧ g9 < gs ∧ g7 < q ∧ g9 < q ∧ gn < q ∧ gs < q ∧ RvOwn X12 w.heap.size A k ∧ SgOwn X12 w.heap.size TT kt ∧ RowT X12 w.heap.size va n vc hh.sp ∧ True) := by
        obtain ⟨hb, b0, b1, b2, b3, l0, l1, l2, l3, r0, r1, r2, _⟩ := HX11.out
        obtain ⟨hg, hb2, bn⟩ := HN.out
        have z0 := b0.lt
        have z1 := b1.lt
        have z2 := b2.lt
        have z3 := b3.lt
        exact ⟨Below.on hb hb2, b0.later hb2, b1.later hb2, b2.later hb2, b3.later hb2, bn, l0, l1, l2, l3, by omega, by omega, by omega, by omega, r0.below hb2 (Nat.le_refl _), r1.below hb2 (Nat.le_refl _), r2.below hb2 (Nat.le_refl _), trivial⟩
      clear HN HX11
      go_wp2_with (first | (refine wpS_store rfl rfl rfl rfl rfl (HX12.out.2.2.2.2.2.1) rfl isS31 (hcL_one _) ?_))
      intro X13 HN
      have HX13 : Hid (Below w.heap.size w X13 ∧ Box X13 g7 46 (rvL A k) ∧ Box X13 g9 24 (asL (Pl.ansA tn r.s.n irs)) ∧ Box X13 gn 46 (rvL A k) ∧ Box X13 gs 28 (sgL TT kt) ∧ Box X13 q 31 (hcL (hcOf hh va vc)) ∧ w.heap.size ≤ g7 ∧ g7 < g9 ∧ g9 < gn ∧ g9 < gs ∧ g7 < q ∧ g9 < q ∧ gn < q ∧ gs < q ∧ RvOwn X13 w.heap.size A k ∧ SgOwn X13 w.heap.size TT kt ∧ RowT X13 w.heap.size va n vc hh.sp ∧ True) := by
        obtain ⟨hb, b0, b1, b2, b3, b4, l0, l1, l2, l3, l4, l5, l6, l7, r0, r1, r2, _⟩ := HX12.out
        obtain ⟨st, bn⟩ := HN.out
        exact ⟨st.below _ _ (by omega) hb, b0.sto st (by omega), b1.sto st (by omega), b2.sto st (by omega), b3.sto st (by omega), bn, l0, l1, l2, l3, l4, l5, l6, l7, r0.stoB st b4 (by decide), r1.stoB st b4 (by decide), r2.stoB st b4 (by decide), trivial⟩
      clear HN HX12
      have q0 : X13.cell? ⟨q, 0, none⟩ = some (.bool true) := by
        have h := Box.cell (HX13.out.2.2.2.2.2.1) 0 rfl
        rw [← HM.out.2.2.1]; exact h
      have q2 : X13.cell? ⟨q, 2, none⟩ = some (.bool false) := by
        have h := Box.cell (HX13.out.2.2.2.2.2.1) 2 rfl
        rw [← HM.out.2.2.2.1]; exact h
      have q1 : X13.cell? ⟨q, 1, none⟩ = some (.int .i64 A.s.n) := by
        have h := Box.cell (HX13.out.2.2.2.2.2.1) 1 rfl
        rw [← HM.out.2.2.2.2.1]; exact h
      have q8 : X13.cell? ⟨q, 8, none⟩ = some (.slice va n vc) := by
        have h := Box.cell (HX13.out.2.2.2.2.2.1) 8 rfl
        rw [← hn]; exact h
      have g70 : X13.cell? ⟨g7, 0, none⟩ = some (.int .i64 A.s.n) := Box.cell (HX13.out.2.1) 0 rfl
      have g72 : X13.cell? ⟨g7, 2, none⟩ = some (.slice k.la k.es.length k.lc) := Box.cell (HX13.out.2.1) 2 rfl
      obtain ⟨L, hL⟩ : ∃ L, k.es.length = L := ⟨_, rfl⟩
      rw [hL] at g72
      obtain ⟨m, hm⟩ : ∃ m, A.s.n = m := ⟨_, rfl⟩
      have HMM : Hid (A.s.n = m) := hm
      rw [hm] at q1 g70
      clear hm
      obtain ⟨S, hS⟩ : ∃ S, lateI k.es = S := ⟨_, rfl⟩
      have HS : Hid (lateI k.es = S ∧ sizeL (Pl.spansL A.s.l) = S ∧ chk (-1) (Pl.spansL A.s.l) = true ∧ A.s.l.length = L) := by
        have e1 := late_is (HX13.out.2.2.2.2.2.2.2.2.2.2.2.2.2.2.1).les
        have e2 := Pl.ans_sizes HM.out.1 (by omega)
        exact ⟨hS, by rw [← e1]; exact hS, e2.1, by rw [← (HX13.out.2.2.2.2.2.2.2.2.2.2.2.2.2.2.1).les, List.length_map]; exact hL⟩
      have hSb : 0 ≤ S ∧ S ≤ 200 := by
        have e2 := (Pl.ans_sizes HM.out.1 (by omega)).2
        rw [HS.out.2.1] at e2
        have e3 := HM.out.1.ok.n0
        omega
      have hLb : L * 32 ≤ 140737488351232 := by rw [← hL]; exact (HX13.out.2.2.2.2.2.2.2.2.2.2.2.2.2.2.1).reach
      clear hS
      have HPC : Hid (PcsAt X13 k.la k.lc k.es) := ⟨(HX13.out.2.2.2.2.2.2.2.2.2.2.2.2.2.2.1).reach, (HX13.out.2.2.2.2.2.2.2.2.2.2.2.2.2.2.1).row.max.1, (HX13.out.2.2.2.2.2.2.2.2.2.2.2.2.2.2.1).row.max.2, (HX13.out.2.2.2.2.2.2.2.2.2.2.2.2.2.2.1).row.nil0, (HX13.out.2.2.2.2.2.2.2.2.2.2.2.2.2.2.1).row.ents, fun x hx => ((HX13.out.2.2.2.2.2.2.2.2.2.2.2.2.2.2.1).fam.mine x (List.mem_cons_of_mem _ hx)).ok⟩
      go_upto_region 20 with fail
      clear q0 q2 g70
      go_wp2_with fail
      go_loopw [18, 19] (fun vl vk wk => ∃ (j : Nat) (u : Int), vl = .int .i64 u ∧ vk = .int .i64 (j : Int) ∧ j ≤ L ∧ X13 = wk ∧ Hid (u = lateI (k.es.take j))) (fun _ vk _ => L - (intOf vk).toNat)
      case atStart => exact ⟨0, 0, rfl, rfl, Nat.zero_le _, rfl, rfl⟩
      case round =>
        obtain ⟨j, u, rfl, rfl, hj, rfl, HU⟩ := hrel
        by_cases hjl : j < L
        · have hjl' : (j : Int) < (L : Int) := by omega
          obtain ⟨b, f, e, hla, hje, hok, hc0, hc1⟩ := HPC.out.get j (by rw [hL]; exact hjl)
          have hle := lateI_le k.es (j + 1)
          have h0 := lateI_0 (k.es.take j)
          have hnx := lateI_take k.es j e hje
          rw [HS.out.1] at hle
          have hu0 : 0 ≤ u := by rw [HU.out]; exact h0
          have hu1 : u + (e.bs.length : Int) ≤ 200 := by rw [HU.out]; omega
          have HU2 : Hid (u + (e.bs.length : Int) = lateI (k.es.take (j + 1))) := by unfold Hid; rw [HU.out]; exact hnx.symm
          rw [hla] at g72
          have HLA : Hid (k.la = some ⟨b, f, none⟩) := hla
          clear hla hle h0 hnx hje hok hc0
          go_wp2_with fail
          go_roundw
          case rel => exact ⟨j + 1, u + (e.bs.length : Int), rfl, by go_num, by omega, (by first | trivial | rfl), HU2⟩
          case measure => simp [intOf]; omega
        · have hjl' : ¬ (j : Int) < (L : Int) := by omega
          have hjL : j = L := by omega
          have hu : u = S := by rw [HU.out, ← HS.out.1, hjL, ← hL, List.take_length]
          clear HU HPC
          subst hjL hu
          by_cases h3 : j ≤ 3
          · have hL3 : (j : Int) ≤ 3 := by omega
            have hsz := size_any va vc hh.sp X13 (HX13.out.2.2.2.2.2.2.2.2.2.2.2.2.2.2.2.2.1).tims
            rw [hn, HM.out.2.2.2.2.2 (by rw [HS.out.2.2.2]; exact h3), show sizeV (Pl.spansL A.s.l) = u by unfold sizeV; rw [if_pos HS.out.2.2.1]; exact HS.out.2.1] at hsz
            go_wp2_with fail
            refine (hsz).mono ?_
            rintro e w14 ⟨rfl, hB⟩
            have HX14 : Hid (Below w.heap.size w w14 ∧ Box w14 g7 46 (rvL A k) ∧ Box w14 g9 24 (asL (Pl.ansA tn r.s.n irs)) ∧ Box w14 gn 46 (rvL A k) ∧ Box w14 gs 28 (sgL TT kt) ∧ Box w14 q 31 (hcL (hcOf hh va vc)) ∧ w.heap.size ≤ g7 ∧ g7 < g9 ∧ g9 < gn ∧ g9 < gs ∧ g7 < q ∧ g9 < q ∧ gn < q ∧ gs < q ∧ RvOwn w14 w.heap.size A k ∧ SgOwn w14 w.heap.size TT kt ∧ RowT w14 w.heap.size va n vc hh.sp ∧ True) := by
              obtain ⟨hb, b0, b1, b2, b3, b4, l0, l1, l2, l3, l4, l5, l6, l7, r0, r1, r2, _⟩ := HX13.out
              exact ⟨Below.on hb hB, b0.later hB, b1.later hB, b2.later hB, b3.later hB, b4.later hB, l0, l1, l2, l3, l4, l5, l6, l7, r0.below hB (Nat.le_refl _), r1.below hB (Nat.le_refl _), r2.below hB (Nat.le_refl _), trivial⟩
            clear hB  HX13
            clear hsz
            have fq := fun i => Box.frozen (HX14.out.2.2.2.2.2.1) i
            have qq1 : w14.cell? ⟨q, 1, none⟩ = some (.int .i64 m) := by
              have h := Box.cell (HX14.out.2.2.2.2.2.1) 1 rfl
              rw [← HMM.out, ← HM.out.2.2.2.2.1]; exact h
            have f9 := fun i => Box.frozen (HX14.out.2.2.1) i
            have g90 := Box.cell (HX14.out.2.2.1) 0 rfl
            go_upto_region 9 with fail
            obtain ⟨X15, hX⟩ : ∃ X, w14.setCell ⟨g9, 0, none⟩ (.int .i64 m) = X := ⟨_, rfl⟩
            try rw [hX]
            have HX15 : Hid (Below w.heap.size w X15 ∧ Box X15 g7 46 (rvL A k) ∧ Box X15 g9 24 (asL (Pl.ansA tn m irs)) ∧ Box X15 gn 46 (rvL A k) ∧ Box X15 gs 28 (sgL TT kt) ∧ Box X15 q 31 (hcL (hcOf hh va vc)) ∧ w.heap.size ≤ g7 ∧ g7 < g9 ∧ g9 < gn ∧ g9 < gs ∧ g7 < q ∧ g9 < q ∧ gn < q ∧ gs < q ∧ RvOwn X15 w.heap.size A k ∧ SgOwn X15 w.heap.size TT kt ∧ RowT X15 w.heap.size va n vc hh.sp ∧ True) := by
              obtain ⟨hb, b0, b1, b2, b3, b4, l0, l1, l2, l3, l4, l5, l6, l7, r0, r1, r2, _⟩ := HX14.out
              have st := (Sto.refl w14 g9).set 0 (.int .i64 m)
              rw [hX] at st
              subst hX
              exact ⟨below_set hb _ _ _ (by omega), b0.aside _ _ _ (by omega), b1.set 0 _, b2.aside _ _ _ (by omega), b3.aside _ _ _ (by omega), b4.aside _ _ _ (by omega), l0, l1, l2, l3, l4, l5, l6, l7, r0.stoB st b1 (by decide), r1.stoB st b1 (by decide), r2.stoB st b1 (by decide), trivial⟩
            clear hX HX14
            clear g90 f9 fq qq1
            have HO : Hid (AnsAt w X15 g7 g9 A k tn irs) := { good := HM.out.1, rcn := HM.out.2.1, own := (HX15.out.2.2.2.2.2.2.2.2.2.2.2.2.2.2.1), box := (HX15.out.2.1), ask := (by rw [HMM.out]; exact (HX15.out.2.2.1)), bel := HX15.out.1 }
            clear HX15
            go_wp2_with fail
            go_roundw
            case rel => exact ⟨A, k, i + 1, by go_num, by omega, HO⟩
            case measure => simp [intOf]; omega
          · have hL3 : ¬ (j : Int) ≤ 3 := by omega
            have fq := fun i => Box.frozen (HX13.out.2.2.2.2.2.1) i
            have qq1 : X13.cell? ⟨q, 1, none⟩ = some (.int .i64 m) := by
              have h := Box.cell (HX13.out.2.2.2.2.2.1) 1 rfl
              rw [← HMM.out, ← HM.out.2.2.2.2.1]; exact h
            have f9 := fun i => Box.frozen (HX13.out.2.2.1) i
            have g90 := Box.cell (HX13.out.2.2.1) 0 rfl
            go_upto_region 9 with fail
            obtain ⟨X14, hX⟩ : ∃ X, X13.setCell ⟨g9, 0, none⟩ (.int .i64 m) = X := ⟨_, rfl⟩
            try rw [hX]
            have HX14 : Hid (Below w.heap.size w X14 ∧ Box X14 g7 46 (rvL A k) ∧ Box X14 g9 24 (asL (Pl.ansA tn m irs)) ∧ Box X14 gn 46 (rvL A k) ∧ Box X14 gs 28 (sgL TT kt) ∧ Box X14 q 31 (hcL (hcOf hh va vc)) ∧ w.heap.size ≤ g7 ∧ g7 < g9 ∧ g9 < gn ∧ g9 < gs ∧ g7 < q ∧ g9 < q ∧ gn < q ∧ gs < q ∧ RvOwn X14 w.heap.size A k ∧ SgOwn X14 w.heap.size TT kt ∧ RowT X14 w.heap.size va n vc hh.sp ∧ True) := by
              obtain ⟨hb, b0, b1, b2, b3, b4, l0, l1, l2, l3, l4, l5, l6, l7, r0, r1, r2, _⟩ := HX13.out
              have st := (Sto.refl X13 g9).set 0 (.int .i64 m)
              rw [hX] at st
              subst hX
              exact ⟨below_set hb _ _ _ (by omega), b0.aside _ _ _ (by omega), b1.set 0 _, b2.aside _ _ _ (by omega), b3.aside _ _ _ (by omega), b4.aside _ _ _ (by omega), l0, l1, l2, l3, l4, l5, l6, l7, r0.stoB st b1 (by decide), r1.stoB st b1 (by decide), r2.stoB st b1 (by decide), trivial⟩
            clear hX HX13
            clear g90 f9 fq qq1
            have HO : Hid (AnsAt w X14 g7 g9 A k tn irs) := { good := HM.out.1, rcn := HM.out.2.1, own := (HX14.out.2.2.2.2.2.2.2.2.2.2.2.2.2.2.1), box := (HX14.out.2.1), ask := (by rw [HMM.out]; exact (HX14.out.2.2.1)), bel := HX14.out.1 }
            clear HX14
            go_wp2_with fail
            go_roundw
            case rel => exact ⟨A, k, i + 1, by go_num, by omega, HO⟩
            case measure => simp [intOf]; omega
    · have hge : ¬ (i : Int) < (pn : Int) := by omega
      go_wp2_with fail
      refine (heads_is _).mono ?_
      rintro e w8 ⟨rfl, hB8⟩
      go_wp2_with fail
      go_ret
      exact ⟨rfl, Below.on HR.out.bel hB8⟩
theorem answers_walk (irs : Int) (pa : Option Addr) (pn pc : Nat) (ps : List Int) (ta : Option Addr) (tn tc : Nat) (ts : List Int) (w : World) (hi : U32 irs) (hP : IntsAt w pa ps) (hp : ps.length = pn) (hpb : pn ≤ 9223372036854775807) (hT : SlAt w ta tc ts) (ht : ts.length = tn)
    : Calls Try.prog 7 #[.int .u32 irs, .slice pa pn pc, .slice ta tn tc] w fun e w' => e = .returned (.bool true) ∧ Below w.heap.size w w' := by
  by_cases h1 : tn ≤ 200
  · by_cases h2 : pn ≤ 100
    · exact an_near irs pa pn pc ps ta tn tc ts w ⟨hT, ht, hi, hP, hp⟩ h1 h2
    · exact an_far2 irs pa pn pc ps ta tn tc ts w h1 (by omega)
  · exact an_far1 irs pa pn pc ps ta tn tc ts w (by omega)
end Go.Proofs.Ytdodagpkkjpdiaa
